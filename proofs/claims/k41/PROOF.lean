import PyProof.Rows.All
import Wide.All
import OpenK.AllK
import Wide.FinOn
import Lean
import PyProof.EqAt
import PyProof.EqKinds
import PyProof.TupleCall
import PyProof.NeKinds
import PyProof.FitsReplace
import PyProof.Rows.SumAny
import PyProof.Rows.MinMaxN
import PyProof.Rows.CallKwBuiltin
import PyProof.StrBlock2
import KE.KMinKey
import OpenK.KOwn
import PyProof.ExcArgsOwn
import KE.KIsAll
import PyProof.ReprRoads
import PyProof.ReprBulk
import PyProof.StrWalks
import PyProof.ConsumeWalk
import PyProof.StrCalls2
import PyProof.EnumMake
import PyProof.Draws
import PyProof.Rows.EnumRows
import PyProof.Rows.FactsT2
import PyProof.CompUse
import KE.KRevIter
import PyProof.ListStr
import KE.KIntText
import PyProof.StrLawsIdx
import PyProof.StrLawsNeg
import PyProof.StrLawsTight
import PyProof.StrLawsChain
import PyProof.Rows.StrItems
import PyProof.Rows.StrFirst
import PyProof.Rows.StrLawsPart
import PyProof.Rows.Range3
import PyProof.Rows.StrWeight2
import PyProof.AutoListH
import PyProof.TupleOfGen
import PyProof.WalksEnum
import PyProof.FactsAll.range_2
import PyProof.ZipIter
import PyProof.MeetsSeq
import PyProof.Rows.StrInSeq3
import PyProof.FactsAll.list_3
import KE.KTryOn
import OpenK.KRaise
import PyProof.DictItems
import KE.KPairComp
import PyProof.Rows.SetFrom
import PyProof.SetRoads
import PyProof.AttrMissHeap
import KE.KDictOf
import PyProof.DictWalks
import KE.KUnpack
import PySem.Challenge.RW_leafsay_k41_needs
/-! Names that stand for nothing: where a name is taken, the head goes on without the twin of that name, and the compiled text stays small. -/
namespace PySem.W.Fast
def tw15599254411337507154:=0
def tw6114501411197416233:=0
def tw1250793527419639011:=0
def tw10288334180965944452:=0
def tw4081199883427166893:=0
def tw14210690092310573213:=0
def tw11958666602756363435:=0
def tw12810210551355296979:=0
def tw1541458423707710728:=0
def tw2407088970198861898:=0
def tw15360313256137733795:=0
def tw7069266424821515570:=0
def tw12317256527079060435:=0
def tw12982087382177828000:=0
def tw11109025846467447388:=0
def tw12919525083650999742:=0
def tw15028341241099761503:=0
def tw505365311538102763:=0
def tw18926023543692719:=0
def tw6657299973701644906:=0
def tw1243467974953129137:=0
def tw14218507069681203613:=0
def tw9367525084234784012:=0
def tw14186594739547212670:=0
def tw17788721100339573485:=0
def tw13556716293551225781:=0
def tw2374889628063022925:=0
def tw11635388315895629699:=0
def tw9139868760307459328:=0
def tw6303043011198929680:=0
def tw13424757618939530669:=0
def tw3532233280997201516:=0
def tw12211243394211126199:=0
def tw15872536264334437149:=0
def tw16926428984332103942:=0
def tw12160253024735569120:=0
def tw13571424423024930267:=0
def tw16362414563620418389:=0
def tw751992679255443873:=0
def tw16077448134770543076:=0
def tw8955421997935354089:=0
def tw9434705885591514161:=0
def tw13658206739466024281:=0
def tw6558607846288811045:=0
def tw18263373385698534272:=0
def tw12482206547133100646:=0
def tw16900767159674966063:=0
def tw11682071780968910960:=0
def tw4241672981247983291:=0
def tw1582212460636420227:=0
def tw11521050241138975869:=0
def tw11310380063062211015:=0
def tw9505839685388188683:=0
def tw13606463331687273252:=0
def tw14085596855240485418:=0
def tw6771487875490070746:=0
def tw13116357244202936961:=0
def tw6996504309574610819:=0
def tw12383372905018646125:=0
def tw5247824030208240225:=0
def tw12436946040362207445:=0
def tw3545561407540418665:=0
def tw13768373778377390422:=0
def tw7185901553730466625:=0
def tw13277145102310882240:=0
def tw17939742660427317862:=0
def tw16507003717762379574:=0
def tw3770165810961330920:=0
def tw5601120135858269453:=0
def tw10123323485164893371:=0
def tw16063469171519345908:=0
def tw428694622350644286:=0
def tw6482435834033767045:=0
def tw1670736327371645019:=0
def tw3435276190073510706:=0
def tw13118421619579318294:=0
def tw9199452113724202274:=0
def tw16037346565998247564:=0
def tw17246300758641075069:=0
def tw7414659023423651713:=0
def tw3695498860981186823:=0
def tw11394495125853851706:=0
def tw3390591288404253795:=0
def tw6543868366041463222:=0
def tw16503251860677035080:=0
def tw10423337154866739142:=0
def tw16585492639412416071:=0
def tw10428834191718922240:=0
def tw17843225966964509116:=0
def tw7303758966146819737:=0
def tw4664651051596047269:=0
def tw17850415123091497559:=0
def tw1510562883089536758:=0
def tw4266933047671367802:=0
def tw691290403123702751:=0
def tw98368970687264168:=0
def tw9324727971519261370:=0
def tw10964565498135183866:=0
def tw13817585444432708005:=0
def tw17671182735350036461:=0
def tw16013177324235924217:=0
def tw1801696818644285068:=0
def tw4698703017087839988:=0
def tw16905707047195925463:=0
def tw6187579060013949076:=0
def tw16140351598218398155:=0
def tw2521195110726009342:=0
def tw3015088049099314862:=0
def tw7510502331120133156:=0
def tw16610757140179706516:=0
def tw14215038621028217056:=0
def tw4726632237470581399:=0
def tw6050405273043639886:=0
def tw13424313308100231526:=0
def tw2387399409139822406:=0
def tw13995749758457572102:=0
def tw16027326253760780924:=0
def tw15449509693667011165:=0
def tw203656346304617965:=0
def tw8923564408062587444:=0
def tw15024391328323307093:=0
def tw4423431408743171150:=0
def tw11302412873311401866:=0
def tw2681559542767632913:=0
def tw13629456587856335287:=0
def tw14565297963490746476:=0
def tw7771691236435783954:=0
def tw17367253309278311109:=0
def tw16710428301389315391:=0
def tw125426728585551382:=0
def tw1556011260232136409:=0
def tw7066446729170750781:=0
def tw1130719461654009715:=0
def tw11235671546811585420:=0
def tw1112967644497338515:=0
def tw656117240258677437:=0
def tw479943871483084331:=0
def tw15161469584118840186:=0
def tw4789323614326639683:=0
def tw4319809977320106298:=0
def tw8301944905284076569:=0
def tw15528206876667717678:=0
def tw15260862650404865533:=0
def tw9770123716254189812:=0
def tw9884847272803865834:=0
def tw13083758972623039020:=0
def tw3842527469249207566:=0
def tw8722609946034753146:=0
def tw107899465067792011:=0
def tw13642764583729911930:=0
def tw612952260185656095:=0
def tw8417962080484765288:=0
def tw10374046693335830264:=0
def tw18348469358471806141:=0
def tw15450288916625126116:=0
def tw11281886904535290983:=0
def tw16137592806457791172:=0
def tw18424158051610837770:=0
def tw12125310816226654708:=0
def tw13640940849064104500:=0
def tw18136247119789917072:=0
def tw16378351902081312810:=0
end PySem.W.Fast
def PySem.W.Fast.tw16551256297831057321 : PySem.Program := PySem.Challenge.pw_leafsay_k41_needs
theorem PySem.W.Fast.te16551256297831057321 : PySem.Challenge.pw_leafsay_k41_needs = PySem.W.Fast.tw16551256297831057321 := rfl
set_option Elab.async false
set_option linter.all false
set_option maxRecDepth 100000
noncomputable section
namespace L2
open PySem PySem.Spec PyProof.Rows
abbrev Key:=Sum Int Str
noncomputable def me:Key->Value->Bool
  | .inl k,v=>Value.isInt k v
  | .inr x,v=>Value.isStrOf x v
noncomputable def yO (w:World):Key->Int
  | .inl k=>hashInt k
  | .inr x=>hashStr w x
theorem bv:∀ {k:Key} {v:Value},me k v=true->(∃ i t,k=Sum.inl i/\v=Value.int i t)\/(∃ x t,k=Sum.inr x/\v=Value.str x t)
  | .inl i,v,h=>by
    obtain⟨t,e⟩:=Value.isInt_shape (k:=i) (v:=v) h
    exact .inl ⟨i,t,rfl,e⟩
  | .inr x,v,h=>by
    obtain⟨t,e⟩:=Value.isStrOf_shape (x:=x) (v:=v) h
    exact .inr ⟨x,t,rfl,e⟩
theorem oH (i:Int) (t:Tok):me (.inl i) (.int i t)=true:=by simp[me,Value.isInt]
theorem oG (x:Str) (t:Tok):me (.inr x) (.str x t)=true:=by simp[me,Value.isStrOf]
theorem wW (a b:Int):decide ((Sum.inl a:Key)=Sum.inl b)=(a == b):=by
  by_cases e:a=b
  · subst e;simp
  · have h:¬ (Sum.inl a:Key)=Sum.inl b:=fun q=>e (Sum.inl.inj q)
    rw[decide_eq_false h]
    exact (beq_eq_false_iff_ne.mpr e).symm
theorem wT (a b:Str):decide ((Sum.inr a:Key)=Sum.inr b)=decide (a=b):=by
  by_cases e:a=b
  · subst e;simp
  · have h:¬ (Sum.inr a:Key)=Sum.inr b:=fun q=>e (Sum.inr.inj q)
    rw[decide_eq_false h,decide_eq_false e]
theorem wV (a:Int) (b:Str):decide ((Sum.inl a:Key)=Sum.inr b)=false:=decide_eq_false (fun q=>nomatch q)
theorem wU (a:Str) (b:Int):decide ((Sum.inr a:Key)=Sum.inl b)=false:=decide_eq_false (fun q=>nomatch q)
noncomputable def aU (prog:Program) (w:World):PySem.KeyKind prog w Key where
  is:=me
  hash:=yO w
  inj:=fun v a b ha hb=>by
    rcases bv ha with ⟨i,t,rfl,rfl⟩ | ⟨x,t,rfl,rfl⟩
    · rcases bv hb with ⟨j,u,rfl,e⟩ | ⟨y,u,rfl,e⟩
      · injection e with e1 _;rw[e1]
      · exact nomatch e
    · rcases bv hb with ⟨j,u,rfl,e⟩ | ⟨y,u,rfl,e⟩
      · exact nomatch e
      · injection e with e1 _;rw[e1]
  byValue:=fun k v h=>by
    rcases bv h with ⟨i,t,rfl,rfl⟩ | ⟨x,t,rfl,rfl⟩ <;> rfl
  pyHash:=fun hv h=>by
    rcases bv hv with ⟨i,t,rfl,rfl⟩ | ⟨x,t,rfl,rfl⟩
    · exact wpAny_pyHash_int h
    · exact wpAny_pyHash_str h
  eqBool:=fun hu hv h=>by
    rcases bv hu with ⟨i,t,rfl,rfl⟩ | ⟨x,t,rfl,rfl⟩
    · rcases bv hv with ⟨j,u,rfl,rfl⟩ | ⟨y,u,rfl,rfl⟩
      · rw[wW] at h;exact wpAny_eqBool_int h
      · rw[wV] at h;exact SeqAt.EqAt.int_str i t y u _ _ _ _ h
    · rcases bv hv with ⟨j,u,rfl,rfl⟩ | ⟨y,u,rfl,rfl⟩
      · rw[wU] at h;exact SeqAt.EqAt.str_int x t j u _ _ _ _ h
      · rw[wT] at h;exact wpAny_eqBool_str h
  «strs»:=fun k x t v h=>by
    rcases bv h with ⟨i,u,rfl,e⟩ | ⟨y,u,rfl,e⟩
    · exact nomatch e
    · injection e with e1 _
      subst e1
      cases v <;> rfl
theorem jl (prog:Program) (w:World) (i:Int) (t:Tok):(aU prog w).is (.inl i) (.int i t)=true:=oH i t
theorem jk (prog:Program) (w:World) (x:Str) (t:Tok):(aU prog w).is (.inr x) (.str x t)=true:=oG x t
end L2
namespace L2
open PySem PySem.Spec PyProof.Rows
inductive V where
  | non | bl (b:Bool) | int (i:Int) | str (x:Str) | byt (b:Array UInt8) | flt (b:UInt64) | ref (a:Addr) | ty (n:String)
  deriving DecidableEq
def RelV:V->Value->Prop
  | .non,u=>u=Value.none
  | .bl b,u=>u=Value.bool b
  | .int i,u=>∃ t,u=Value.int i t
  | .str x,u=>∃ t,u=Value.str x t
  | .byt b,u=>∃ t,u=Value.bytes b t
  | .flt b,u=>∃ t,u=Value.float b t
  | .ref a,u=>u=Value.ref a
  | .ty n,u=>u=Value.type n
abbrev Vals:List V->List Value->Prop:=Paired RelV
theorem Vals.length {xs:List V} {us:List Value} (r:Vals xs us):xs.length=us.length:=Paired.length r
theorem Vals.get:∀ {xs:List V} {us:List Value} {i:Nat} {x:V},Vals xs us->xs[i]?=some x->∃ u,us[i]?=some u/\RelV x u
  | _,_,_,_,.nil,e=>by simp at e
  | _,_,0,_,.cons r _,e=>by simp at e;subst e;exact⟨_,rfl,r⟩
  | _,_,i+1,x,.cons _ t,e=>by
    obtain⟨u,h1,h2⟩:=Vals.get (i:=i) (x:=x) t (by simpa using e)
    exact⟨u,by simpa using h1,h2⟩
theorem Vals.set {x:V} {u:Value} (r:RelV x u):∀ {xs:List V} {us:List Value} (i:Nat),Vals xs us->Vals (xs.set i x) (us.set i u)
  | _,_,_,.nil=>.nil
  | _,_,0,.cons _ t=>.cons r t
  | _,_,i+1,.cons q t=>.cons q (Vals.set r i t)
theorem Vals.append:∀ {xs ys:List V} {us ws:List Value},Vals xs us->Vals ys ws->Vals (xs++ys) (us++ws)
  | _,_,_,_,.nil,s=>s
  | _,_,_,_,.cons r t,s=>.cons r (Vals.append t s)
theorem Vals.take:∀ {xs:List V} {us:List Value} (n:Nat),Vals xs us->Vals (xs.take n) (us.take n)
  | _,_,0,_=>.nil
  | _,_,_+1,.nil=>.nil
  | _,_,n+1,.cons r t=>.cons r (Vals.take n t)
theorem Vals.drop:∀ {xs:List V} {us:List Value} (n:Nat),Vals xs us->Vals (xs.drop n) (us.drop n)
  | _,_,0,r=>r
  | _,_,_+1,.nil=>.nil
  | _,_,n+1,.cons _ t=>Vals.drop n t
def RelO:Option V->Option Value->Prop
  | some v,some u=>RelV v u
  | none,none=>True
  | _,_=>False
def KV {κ:Type}:List (κ × V)->List (κ × Value)->Prop:=Paired fun (p:κ × V) (q:κ × Value)=>p.1=q.1/\RelV p.2 q.2
noncomputable def kV:Key->V
  | .inl i=>.int i
  | .inr x=>.str x
inductive HO where
  /-- a list -/
  | lst (xs:List V)
  /-- a tuple (never changes) -/
  | tup (xs:List V)
  /-- a dict whose keys are ints and texts;one whose keys are tuples of ints and texts (the empty one is both) -/
  | dK (kvs:List (Key × V)) | dT (kvs:List (List Key × V))
  /-- a set of ints: its members,its size -/
  | set (S:Int->Bool) (n:Nat)
  /-- an instance of the class at C,its dict at dx,its attributes -/
  | ins (C dx:Addr) (fs:List (Str × V))
  /-- the dict of the instance at x -/
  | own (x:Addr)
  /-- the dict of an exception -/
  | xd (fs:List (Str × V))
  /-- a bound method,f of x -/
  | met (f x:Addr)
  /-- a range object lo,lo+1,.. below hi -/
  | rng (lo hi:Int)
  /-- a thing that is known to the object (the script;a dict while a loop walks it): read,never written while it is so -/
  | frz (o:Obj) (u:HO)
  /-- a code object's table -/
  | tbl (ps:Array Value)
  /-- any other thing,by what is true of its one object (a def of one's own: SetO a S n:=HO.ext fun h=>..) -/
  | ext (φ:Heap->Prop)
abbrev Hp:=Addr->Option HO
def upd (H:Hp) (a:Addr) (o:HO):Hp:=fun b=>if b=a then some o else H b
theorem aa {H:Hp} {a:Addr} {o:HO}:upd H a o a=some o:=by unfold upd;rw[if_pos rfl]
theorem av {H:Hp} {a b:Addr} {o:HO} (h:b ≠ a):upd H a o b=H b:=by unfold upd;rw[if_neg h]
theorem eJ {H:Hp} {a b:Addr} {o u:HO} (h:H a=some o) (h':H b=some u) (d:o ≠ u):a ≠ b:=by
  intro e;subst e;rw[h] at h';exact d (Option.some.inj h')
theorem aG {H:Hp} {a b:Addr} {o:HO} (h:H a=some o) (h':H b=none):a ≠ b:=by
  intro e;subst e;rw[h] at h';cases h'
def NoD (h:Heap) (a:Addr):Prop:=∀ o,h.get? a=some o->o.dict=none
theorem NoD.new (h:Heap) (o:Obj) (e:o.dict=none) (f:o.isFreed=false:=by rfl):NoD (h.push o) h.objs.size:=fun u q=>by
  rw[Heap.get?_push_size _ f] at q
  cases q
  exact e
def Pl (xs:List V):Prop:=∃ x ∈ xs,∀ a,x ≠ .ref a
def TpN (xs:List V) (h:Heap) (a:Addr):Prop:=Pl xs\/NoD h a
theorem TpN.new {xs:List V} (h:Heap) (o:Obj) (e:o.dict=none) (f:o.isFreed=false:=by rfl):TpN xs (h.push o) h.objs.size:=.inr (NoD.new h o e f)
theorem TpN.to {xs:List V} {h h':Heap} {a:Addr} {o:Obj} (x:TpN xs h a) (e:h.get? a=some o) (e':h'.get? a=some o):TpN xs h' a:=x.imp_right fun k u q=>by
  rw[e'] at q
  cases q
  exact k o e
section
variable (P:Program) (w:World)
def ObjOk (H:Hp) (h:Heap) (a:Addr):HO->Prop
  | .lst xs=>xs.length <= sizeLine/\∃ (its:List Value) (n:Nat),Vals xs its/\h.get? a=some { cls:=.type "list",data:=.seq its.toArray n }
  | .tup xs=>(xs.length <= sizeLine/\TpN xs h a)/\∃ its:List Value,Vals xs its/\IsTup h a its.toArray
  | .dK kvs=>kvs.length <= sizeLine/\(a == sysModules)=false/\∃ vs,KV kvs vs/\h.DictOf (aU P w) a vs
  | .dT kvs=>kvs.length <= sizeLine/\(a == sysModules)=false/\∃ xs:List (List Key × Addr × Value),
      Paired (fun (p:List Key × V) (q:List Key × Addr × Value)=>p.1=q.1/\H q.2.1=some (.tup (p.1.map kV))/\RelV p.2 q.2.2) kvs xs /\
      ∃ o es ep,h.get? a=some o/\o.ExactDict/\o.data=.dict es ep/\es.toList=xs.map (entryOfKey (tupleKind (aU P w)))/\(xs.map (·.1)).Nodup
  | .set S n=>h.SetOf (intKind P w) a S n
  | .ins C dx fs=>H dx=some (.own a)/\fs.length <= 1000/\dx ≠ a/\h.get? a=some (PySem.W.instObj C dx) /\
      ∃ mA,h.Ns1 dx mA/\(∀ f,RelO (fs.lookup f) (mA f))/\PySem.Within mA (fs.map (·.1))
  | .own _=>∃ o,h.get? a=some o
  | .xd fs=>∃ mA,h.Ns1 a mA/\∀ f,RelO (fs.lookup f) (mA f)
  | .rng lo hi=>∃ t u v,h.get? a=some { cls:=.type "range",data:=.fields #[.int lo t,.int hi u,.int 1 v] }
  | .frz o u=>h.get? a=some o/\ObjOk H h a u
  | .tbl ps=>h.get? a=some { cls:=.none,data:=.fields ps }
  | .met f x=>h.get? a=some (PySem.W.methodObj (.ref f) (.ref x))
  | .ext φ=>φ h/\(∃ o,h.get? a=some o)/\∀ h1 h2:Heap,φ h1->(∀ o,h1.get? a=some o->h2.get? a=some o)->φ h2
def HOk (H:Hp) (h:Heap):Prop:=∀ a o,H a=some o->ObjOk P w H h a o
end
section
variable {P:Program} {w:World} {H H':Hp} {h h':Heap} {a:Addr} {o:HO}
theorem ObjOk.lt (x:ObjOk P w H h a o):a < h.objs.size:=by
  cases o with
  | lst xs=>obtain⟨_,_,_,_,e⟩:=x;exact Heap.lt_size e
  | tup xs=>obtain⟨_,_,_,p⟩:=x;exact p.lt
  | dK kvs=>obtain⟨_,_,_,_,o,_,_,e,_⟩:=x;exact Heap.lt_size e
  | dT kvs=>obtain⟨_,_,_,_,o,_,_,e,_⟩:=x;exact Heap.lt_size e
  | set S n=>obtain⟨o,_,_,_,e,_⟩:=x;exact Heap.lt_size e
  | ins C dx fs=>obtain⟨_,_,_,e,_⟩:=x;exact Heap.lt_size e
  | own y=>obtain⟨_,e⟩:=x;exact Heap.lt_size e
  | xd fs=>obtain⟨_,⟨_,_,_,e,_⟩,_⟩:=x;exact Heap.lt_size e
  | rng lo hi=>obtain⟨_,_,_,e⟩:=x;exact Heap.lt_size e
  | frz ob u=>obtain⟨e,_⟩:=x;exact Heap.lt_size e
  | tbl ps=>exact Heap.lt_size (show h.get? a=some _ from x)
  | met f y=>exact Heap.lt_size (show h.get? a=some _ from x)
  | ext φ=>obtain⟨_,⟨_,e⟩,_⟩:=x;exact Heap.lt_size e
theorem Paired.mapP {α β:Type} {F G:α->β->Prop}:∀ {l₁:List α} {l₂:List β},Paired F l₁ l₂->(∀ a b,F a b->G a b)->Paired G l₁ l₂
  | _,_,.nil,_=>.nil
  | _,_,.cons r t,f=>.cons (f _ _ r) (Paired.mapP t f)
theorem ObjOk.stay (x:ObjOk P w H h a o) (k:∀ b u,(b=a\/H b=some (.own a))->h.get? b=some u->h'.get? b=some u)
    (ho:∀ b,H b=some (.own a)->H' b=some (.own a)) (ht:∀ b xs,H b=some (.tup xs)->H' b=some (.tup xs)):ObjOk P w H' h' a o:=by
  induction o with
  | lst xs=>obtain⟨z,its,n,r,e⟩:=x;exact⟨z,its,n,r,k _ _ (.inl rfl) e⟩
  | tup xs=>obtain⟨z,its,r,ob,e,c⟩:=x;exact⟨⟨z.1,z.2.to e (k _ _ (.inl rfl) e)⟩,its,r,ob,k _ _ (.inl rfl) e,c⟩
  | dK kvs=>obtain⟨z,y,vs,r,ob,es,ep,e,c⟩:=x;exact⟨z,y,vs,r,ob,es,ep,k _ _ (.inl rfl) e,c⟩
  | dT kvs=>
    obtain⟨z,y,xs,r,ob,es,ep,e,c⟩:=x
    exact⟨z,y,xs,Paired.mapP r fun p q z=>⟨z.1,ht _ _ z.2.1,z.2.2⟩,ob,es,ep,k _ _ (.inl rfl) e,c⟩
  | set S n=>obtain⟨ob,es,ep,t,e,c⟩:=x;exact⟨ob,es,ep,t,k _ _ (.inl rfl) e,c⟩
  | ins C dx fs=>
    obtain⟨d,z,ne,e,mA,⟨od,es,ep,e2,c⟩,r⟩:=x
    exact⟨ho _ d,z,ne,k _ _ (.inl rfl) e,mA,⟨od,es,ep,k _ _ (.inr d) e2,c⟩,r⟩
  | own y=>obtain⟨ob,e⟩:=x;exact⟨ob,k _ _ (.inl rfl) e⟩
  | xd fs=>obtain⟨mA,⟨od,es,ep,e,c⟩,r⟩:=x;exact⟨mA,⟨od,es,ep,k _ _ (.inl rfl) e,c⟩,r⟩
  | rng lo hi=>obtain⟨t,u,v,e⟩:=x;exact⟨t,u,v,k _ _ (.inl rfl) e⟩
  | frz ob u ih=>obtain⟨e,q⟩:=x;exact⟨k _ _ (.inl rfl) e,ih q⟩
  | tbl ps=>
    have e:h.get? a=some { cls:=.none,data:=.fields ps }:=x
    show h'.get? a=some { cls:=.none,data:=.fields ps }
    exact k a _ (.inl rfl) e
  | met f y=>
    have e:h.get? a=some (PySem.W.methodObj (.ref f) (.ref y)):=x
    show h'.get? a=some (PySem.W.methodObj (.ref f) (.ref y))
    exact k a _ (.inl rfl) e
  | ext φ=>obtain⟨p,⟨o,e⟩,st⟩:=x;exact⟨st _ _ p fun o q=>k _ _ (.inl rfl) q,⟨o,k _ _ (.inl rfl) e⟩,st⟩
theorem HOk.lt (x:HOk P w H h) (e:H a=some o):a < h.objs.size:=(x a o e).lt
theorem HOk.fresh (x:HOk P w H h) (e:h.objs.size <= a):H a=none:=by
  cases q:H a with
  | none=>rfl
  | some u=>exact absurd (Nat.lt_of_lt_of_le (x.lt q) e) (Nat.lt_irrefl _)
theorem HOk.kept (x:HOk P w H h) (k:∀ b u,h.get? b=some u->h'.get? b=some u):HOk P w H h':=fun a o e=>
  (x a o e).stay (fun b u _ q=>k b u q) (fun _ q=>q) fun _ _ q=>q
theorem HOk.laid (x:HOk P w H h) (k:∀ b u,h.get? b=some u->h'.get? b=some u) (hp:h.objs.size <= a) (new:ObjOk P w (upd H a o) h' a o):HOk P w (upd H a o) h':=fun b u e=>by
  have hn:=x.fresh hp
  by_cases hb:b=a
  · subst hb;rw[aa] at e;cases e;exact new
  · rw[av hb] at e
    exact (x b u e).stay (fun c v _ q=>k c v q) (fun c q=>by rw[av (aG q hn)];exact q) fun c xs q=>by rw[av (aG q hn)];exact q
end
def Rd (H:Hp) (a:Addr) (u:HO):Prop:=H a=some u\/∃ o,H a=some (.frz o u)
theorem Rd.ok {P:Program} {w:World} {H:Hp} {h:Heap} {a:Addr} {u:HO} (r:Rd H a u) (x:HOk P w H h):ObjOk P w H h a u:=by
  rcases r with r | ⟨o,r⟩
  · exact x a u r
  · obtain⟨_,q⟩:=x a _ r
    exact q
def Mut:Option HO->Prop
  | some (.lst _)=>True
  | some (.dK _)=>True
  | some (.dT _)=>True
  | some (.set _ _)=>True
  | some (.ins _ _ _)=>True
  | some (.ext _)=>True
  | _=>False
section
variable {P:Program} {w:World} {H:Hp} {h h':Heap} {x e:Addr} {o':HO}
theorem HOk.write (ok:HOk P w H h) (mu:Mut (H x)) (he:e=x\/H e=some (.own x)) (k:∀ b u,b ≠ e->h.get? b=some u->h'.get? b=some u) (heo:∃ u,h'.get? e=some u)
    (new:ObjOk P w (upd H x o') h' x o'):HOk P w (upd H x o') h':=fun b u q=>by
  have nown:∀ c y,H c=some (.own y)->c ≠ x:=fun c y r z=>by subst z;rw[r] at mu;exact mu
  have ntup:∀ c xs,H c=some (.tup xs)->c ≠ x:=fun c xs r z=>by subst z;rw[r] at mu;exact mu
  by_cases hb:b=x
  · subst hb;rw[aa] at q;cases q;exact new
  · rw[av hb] at q
    by_cases hbe:b=e
    · have q':H b=some (.own x):=by
        rcases he with z | z
        · exact absurd (hbe.trans z) hb
        · rw[hbe];exact z
      rw[q] at q';cases q'
      obtain⟨v,hv⟩:=heo
      exact⟨v,by rw[hbe];exact hv⟩
    · refine (ok b u q).stay (fun c v hc r=>k c v ?_ r) (fun c r=>by rw[av (nown c b r)];exact r) fun c xs r=>by rw[av (ntup c xs r)];exact r
      rcases hc with rfl | hc
      · exact hbe
      · rintro rfl
        rcases he with z | z
        · exact nown c b hc z
        · rw[hc] at z;cases z;exact hb rfl
end
structure Un (fs ex:List Addr) (H H':Hp) (h h':Heap):Prop where
  keep:∀ b o,h.get? b=some o->H b=none->b ∉ fs->b ∉ ex->h'.get? b=some o
  slot:∀ b o,h.get? b=some o->H b=none->b ∈ fs->b ∉ ex->∃ sl,h'.get? b=some { o with slots:=sl }
  free:∀ b o,h.get? b=some o->H b=none->b ∉ ex->H' b=none
  there:∀ b o,h.get? b=some o->b ∉ ex->∃ o',h'.get? b=some o'
  tups:∀ b xs,H b=some (.tup xs)->H' b=some (.tup xs)
  frzs:∀ b o u,H b=some (.frz o u)->H' b=some (.frz o u)
  tbls:∀ b ps,H b=some (.tbl ps)->∃ more,H' b=some (.tbl (ps++more))
section
variable {fs fs' ex ex':List Addr} {H H1 H2:Hp} {h h1 h2 h':Heap} {a x e:Addr} {o:HO}
theorem Un.any (u:Un fs ex H H1 h h1) {b:Addr} {ob:Obj} (q:h.get? b=some ob) (n:H b=none) (hx:b ∉ ex):∃ sl,h1.get? b=some { ob with slots:=sl }:=by
  by_cases hb:b ∈ fs
  · exact u.slot b ob q n hb hx
  · exact⟨ob.slots,u.keep b ob q n hb hx⟩
theorem Un.kept (k:∀ b u,h.get? b=some u->h'.get? b=some u):Un fs ex H H h h':=
  ⟨fun b ob q _ _ _=>k b ob q,fun b ob q _ _ _=>⟨ob.slots,k b ob q⟩,fun _ _ _ n _=>n,fun b ob q _=>⟨ob,k b ob q⟩,fun _ _ q=>q,fun _ _ _ q=>q,fun _ ps q=>⟨#[],by rw[q];simp⟩⟩
theorem Un.refl:Un fs ex H H h h:=Un.kept fun _ _ q=>q
theorem Un.laid (k:∀ b u,h.get? b=some u->h'.get? b=some u) (hp:h.objs.size <= a) (hn:H a=none):Un fs ex H (upd H a o) h h' where
  keep:=fun b u q _ _ _=>k b u q
  slot:=fun b u q _ _ _=>⟨u.slots,k b u q⟩
  free:=fun b u q n _=>by rw[av (Nat.ne_of_lt (Nat.lt_of_lt_of_le (Heap.lt_size q) hp))];exact n
  there:=fun b u q _=>⟨u,k b u q⟩
  tups:=fun b xs q=>by rw[av (aG q hn)];exact q
  frzs:=fun b u xs q=>by rw[av (aG q hn)];exact q
  tbls:=fun b ps q=>⟨#[],by rw[av (aG q hn),q];simp⟩
theorem Un.write (mu:Mut (H x)) (he:e=x\/H e=some (.own x)) (k:∀ b u,b ≠ e->h.get? b=some u->h'.get? b=some u) (heo:∃ u,h'.get? e=some u):Un fs ex H (upd H x o) h h':=by
  have hx:∀ b,H b=none->b ≠ x:=fun b n z=>by subst z;rw[n] at mu;exact mu
  have hb:∀ b,H b=none->b ≠ e:=fun b n z=>by
    subst z
    rcases he with r | r
    · exact hx b n r
    · rw[n] at r;cases r
  have hm:∀ b u,H b=some u->¬ Mut (some u)->b ≠ x:=fun b u q nm z=>by subst z;rw[q] at mu;exact nm mu
  refine⟨fun b u q n _ _=>k b u (hb b n) q,fun b u q n _ _=>⟨u.slots,k b u (hb b n) q⟩,fun b u q n _=>by rw[av (hx b n)];exact n,fun b u q _=>?_,
    fun b xs q=>by rw[av (hm b _ q fun z=>z)];exact q,fun b u xs q=>by rw[av (hm b _ q fun z=>z)];exact q,fun b ps q=>⟨#[],by rw[av (hm b _ q fun z=>z),q];simp⟩⟩
  by_cases hbe:b=e
  · subst hbe;exact heo
  · exact⟨u,k b u hbe q⟩
end
noncomputable def trk (h:Heap) (H:Hp):List Addr:=(List.range h.objs.size).filter fun a=>(H a).isSome
noncomputable def qX (h:Heap) (H:Hp):Heap:=PySem.W.hideAll h (trk h H)
theorem oS (h:Heap) (H:Hp):(qX h H).objs.size=h.objs.size:=PySem.W.hideAll_size _ _
theorem qW {h:Heap} {H:Hp} {b:Addr} {o:Obj} (e:h.get? b=some o) (n:H b=none):(qX h H).get? b=some o:=
  PySem.W.hideAll_get _ e fun hm=>by
    have q:(H b).isSome=true:=(List.mem_filter.mp hm).2
    rw[n] at q;simp at q
theorem uB {h:Heap} {H:Hp} {b:Addr} {o:Obj} (e:(qX h H).get? b=some o):h.get? b=some o/\H b=none:=by
  have e':h.get? b=some o:=PySem.W.of_hideAll (trk h H) e
  refine⟨e',?_⟩
  cases q:H b with
  | none=>rfl
  | some x=>
    have hm:b ∈ trk h H:=List.mem_filter.mpr ⟨List.mem_range.mpr (Heap.lt_size e'),by simp[q]⟩
    have z:(qX h H).get? b=none:=PySem.W.hideAll_none (trk h H) hm
    rw[z] at e;cases e
end L2
namespace L2
open PySem PySem.Spec PyProof.Rows
structure Mod (K:W.Frag) (mg:Str->Option Value) (base:Heap):Prop where
  kin:K.In base
  glob:base.Ns mainGlobals mg
  blt:∃ mb,base.Ns builtinsNs mb/\∀ x:Str,x ≠ "__name__"->mb x=bootBuiltins x
  nolimit:base.NoLimit
structure Cx where
  prog:Program
  w:World
  K:W.Frag
  mg:Str->Option Value
  base:Heap
  A:Around
  N:List Str
  s₀:Shared
  H₀:Hp
  env:Env
  outer:List Env
  stack:List Env
  ex:List Addr
  fn:Str->Bool
  calm:Bool
  pn:List (Addr × Obj)
  xe:Value->Shared->Prop
noncomputable def frs (l:List Env):List Addr:=l.filterMap (·.frame)
abbrev Cx.fs (X:Cx):List Addr:=frs X.outer
def Vis (sc:Scope) (x:Str):Prop:=sc.names.lookup x=some .local\/sc.names.lookup x=some .cell\/sc.names.lookup x=some .free
def Loc (sc:Scope) (x:Str):Prop:=sc.names.lookup x=some .local\/sc.names.lookup x=some .cell
def yE (env:Env) (h:Heap) (m:Str->Option Value) (x:Str) (u:Value):Prop:=
  (env.kindOf x=some .local/\m x=some u)\/((env.kindOf x=some .cell\/env.kindOf x=some .free)/\∃ c,env.cells.lookup x=some c/\h.IsCell c (some u))
structure Cx.Ok (X:Cx):Prop where
  mod:Mod X.K X.mg X.base
  kind:X.env.scope.kind=.function
  glob:X.env.globals=mainGlobals
  blt:X.env.builtins=builtinsNs
  above:X.s₀.heap.objs.size <= X.env.locals
  inj:∀ x y c,X.env.cells.lookup x=some c->X.env.cells.lookup y=some c->x=y
  has:∀ x,(X.env.kindOf x=some .cell\/X.env.kindOf x=some .free)->∃ c,X.env.cells.lookup x=some c
  cab:∀ x c,X.fn x=true->X.env.cells.lookup x=some c->X.s₀.heap.objs.size <= c
  hd:X.calm=true->X.A.handled=none
  frames:X.A.frames=some X.stack
  stk:X.stack=X.outer\/(X.stack=X.env::X.outer/\X.env.frame=some X.env.locals)
  exf:∀ b ∈ X.ex,b ≠ X.env.locals/\∀ x c,X.env.cells.lookup x=some c->c ≠ b
  bs:∀ b o,X.base.get? b=some o->X.s₀.heap.get? b=some o/\X.H₀ b=none
  bsz:X.base.objs.size <= X.s₀.heap.objs.size
  noex:∀ b o,X.base.get? b=some o->b ∉ X.ex
  exfs:∀ b ∈ X.ex,b ∉ X.fs
  funs:X.s₀.heap.FunFrames X.base X.outer
  frf:∀ b ∈ X.fs,X.H₀ b=none
structure Inv (X:Cx) (pins:List (Addr × Obj)) (σ:List (Option V)) (H:Hp) (s:Shared):Prop where
  ok:X.Ok
  os:s.os=X.s₀.os
  bare:AllBare s.gens
  base:Un X.fs X.ex X.H₀ H X.s₀.heap s.heap
  loc:∃ m,s.heap.Ns X.env.locals m/\∀ (i:Nat) (x:Str) (v:V),X.N[i]?=some x->σ[i]?=some (some v)->Vis X.env.scope x->∃ u,RelV v u/\yE X.env s.heap m x u
  cell:∀ x c,X.env.cells.lookup x=some c->∃ v,s.heap.IsCell c v
  free:H X.env.locals=none
  freeC:∀ x c,X.env.cells.lookup x=some c->H c=none
  pin:∀ p ∈ X.pn++pins,s.heap.get? p.1=some p.2/\H p.1=none/\p.1 ≠ X.env.locals/\p.1 ∉ X.fs/\∀ v,p.2.data ≠ .cell v
  hok:HOk X.prog X.w H s.heap
  len:σ.length=X.N.length
section
variable {X:Cx} {pins:List (Addr × Obj)} {σ:List (Option V)} {H H':Hp} {s:Shared} {h':Heap}
theorem Cx.Ok.nofr (ok:X.Ok) {b:Addr} {o:Obj} (e:X.base.get? b=some o):b ∉ X.fs:=fun hb=>by
  have:=(ok.funs.mem hb).1
  rw[e] at this;cases this
theorem Inv.bs (I:Inv X pins σ H s):∀ b o,X.base.get? b=some o->s.heap.get? b=some o/\H b=none:=fun b o e=>
  ⟨I.base.keep b o (I.ok.bs b o e).1 (I.ok.bs b o e).2 (I.ok.nofr e) (I.ok.noex b o e),I.base.free b o (I.ok.bs b o e).1 (I.ok.bs b o e).2 (I.ok.noex b o e)⟩
theorem Inv.bk (I:Inv X pins σ H s):∀ b o,X.base.get? b=some o->s.heap.get? b=some o:=fun b o e=>(I.bs b o e).1
theorem Inv.mod (I:Inv X pins σ H s):Mod X.K X.mg X.base:=I.ok.mod
theorem Inv.kIn (I:Inv X pins σ H s):X.K.In s.heap:=I.ok.mod.kin.keeps I.bk
theorem Inv.lt (I:Inv X pins σ H s):X.env.locals < s.heap.objs.size:=let ⟨_,hn,_⟩:=I.loc;hn.lt
theorem Inv.sz (I:Inv X pins σ H s):X.s₀.heap.objs.size <= s.heap.objs.size:=Nat.le_trans I.ok.above (Nat.le_of_lt I.lt)
theorem Inv.nofs (I:Inv X pins σ H s) {a:Addr} (h:s.heap.objs.size <= a):a ∉ X.fs:=fun hb=>by
  obtain⟨_,o,ho,_⟩:=I.ok.funs.mem hb
  exact absurd (Nat.lt_of_lt_of_le (Heap.lt_size ho) (Nat.le_trans I.sz h)) (Nat.lt_irrefl _)
theorem Inv.cne (I:Inv X pins σ H s):∀ x c,X.env.cells.lookup x=some c->c ≠ X.env.locals:=fun x c e z=>by
  obtain⟨v,o,ho,hd⟩:=I.cell x c e
  obtain⟨m,⟨o',es,ep,ho',hd',_⟩,_⟩:=I.loc
  rw[z,ho'] at ho;cases ho;rw[hd'] at hd;cases hd
theorem Inv.funs (I:Inv X pins σ H s):s.heap.FunFrames X.base X.outer:=by
  have all:∀ (l:List Env),(∀ b ∈ frs l,b ∈ X.fs)->X.s₀.heap.FunFrames X.base l->s.heap.FunFrames X.base l:=by
    intro l
    induction l with
    | nil=>intro _ _;trivial
    | cons env r ih=>
      intro hs hl
      obtain⟨hk,⟨L,o,hf,hn,ho,hd⟩,hr⟩:=hl
      have hL:L ∈ X.fs:=hs L (by unfold frs;rw[List.filterMap_cons,hf];exact List.mem_cons_self)
      obtain⟨sl,e⟩:=I.base.slot L o ho (I.ok.frf L hL) hL fun z=>I.ok.exfs L z hL
      exact⟨hk,⟨L,_,hf,hn,e,hd⟩,ih (fun b hb=>hs b (by unfold frs;rw[List.filterMap_cons,hf];exact List.mem_cons_of_mem _ hb)) hr⟩
  exact all X.outer (fun _ hb=>hb) I.ok.funs
theorem Inv.stack (I:Inv X pins σ H s):s.heap.FunFrames X.base X.stack:=by
  rcases I.ok.stk with e | ⟨e,hf⟩
  · rw[e];exact I.funs
  · rw[e]
    obtain⟨m,hn,_⟩:=I.loc
    refine .cons (by rw[I.ok.kind];decide) hf hn ?_ I.funs
    exact Heap.get?_none_of_le (Nat.le_trans I.ok.bsz I.ok.above)
theorem Inv.stkSub (I:Inv X pins σ H s):∀ b ∈ frs X.stack,b ∈ X.env.locals::X.fs:=fun b hb=>by
  rcases I.ok.stk with e | ⟨e,hf⟩
  · rw[e] at hb;exact List.mem_cons_of_mem _ hb
  · rw[e] at hb
    unfold frs at hb
    rw[List.filterMap_cons,hf] at hb
    exact hb
theorem Inv.stkFree (I:Inv X pins σ H s):∀ b ∈ frs X.stack,H b=none:=fun b hb=>by
  rcases List.mem_cons.mp (I.stkSub b hb) with e | hb
  · rw[e];exact I.free
  · obtain⟨_,o,ho,_⟩:=I.ok.funs.mem hb
    exact I.base.free b o ho (I.ok.frf b hb) fun z=>I.ok.exfs b z hb
theorem Inv.step {g':Array GenState} {t':Nat} {d':Drawn} {ch:List Addr} (I:Inv X pins σ H s)
    (hch:∀ b ∈ ch,(b ∈ X.ex\/X.s₀.heap.objs.size <= b)/\b ≠ X.env.locals/\(∀ x c,X.env.cells.lookup x=some c->c ≠ b)/\∀ p ∈ X.pn++pins,p.1 ≠ b)
    (keep:∀ b o,b ≠ X.env.locals->b ∉ X.fs->b ∉ ch->s.heap.get? b=some o->H b=none->h'.get? b=some o)
    (slot:∀ b o,b ≠ X.env.locals->b ∈ X.fs->b ∉ ch->s.heap.get? b=some o->H b=none->∃ sl,h'.get? b=some { o with slots:=sl }) (free:∀ b o,b ∉ ch->s.heap.get? b=some o->H b=none->H' b=none)
    (there:∀ b o,b ∉ ch->s.heap.get? b=some o->∃ o',h'.get? b=some o')
    (tups:∀ b xs,H b=some (.tup xs)->H' b=some (.tup xs)) (frzs:∀ b o u,H b=some (.frz o u)->H' b=some (.frz o u)) (tbls:∀ b ps,H b=some (.tbl ps)->∃ more,H' b=some (.tbl (ps++more)))
    (ns:∀ m,s.heap.Ns X.env.locals m->h'.Ns X.env.locals m) (hok:HOk X.prog X.w H' h') (hg:AllBare g') :
    Inv X pins σ H' { s with heap:=h',gens:=g',drawn:=d',toks:=t' }:=by
  have neL:∀ b o,X.s₀.heap.get? b=some o->b ≠ X.env.locals:=fun b o e=>Nat.ne_of_lt (Nat.lt_of_lt_of_le (Heap.lt_size e) I.ok.above)
  have neC:∀ b o,X.s₀.heap.get? b=some o->b ∉ X.ex->b ∉ ch:=fun b o e hx hb=>by
    rcases (hch b hb).1 with z | z
    · exact hx z
    · exact absurd (Nat.lt_of_lt_of_le (Heap.lt_size e) z) (Nat.lt_irrefl _)
  have cellK:∀ x c,X.env.cells.lookup x=some c->∀ v,s.heap.IsCell c v->h'.IsCell c v:=fun x c e v ⟨o,ho,hd⟩=>by
    have nch:c ∉ ch:=fun z=>(hch c z).2.2.1 x c e rfl
    by_cases hc:c ∈ X.fs
    · obtain⟨sl,q⟩:=slot c o (I.cne x c e) hc nch ho (I.freeC x c e)
      exact⟨_,q,hd⟩
    · exact⟨o,keep c o (I.cne x c e) hc nch ho (I.freeC x c e),hd⟩
  refine⟨I.ok,I.os,hg,⟨fun b o e n hb hx=>?_,fun b o e n hb hx=>?_,fun b o e n hx=>?_,fun b o e hx=>?_,fun b xs e=>tups b xs (I.base.tups b xs e),fun b o xs e=>frzs b o xs (I.base.frzs b o xs e),fun b ps e=>?_⟩,?_,fun x c e=>?_,?_,fun x c e=>?_,fun p hp=>?_,hok,I.len⟩
  · exact keep b o (neL b o e) hb (neC b o e hx) (I.base.keep b o e n hb hx) (I.base.free b o e n hx)
  · obtain⟨sl,e1⟩:=I.base.slot b o e n hb hx
    obtain⟨sl',e2⟩:=slot b _ (neL b o e) hb (neC b o e hx) e1 (I.base.free b o e n hx)
    exact⟨sl',e2⟩
  · obtain⟨o',e1⟩:=I.base.there b o e hx
    exact free b o' (neC b o e hx) e1 (I.base.free b o e n hx)
  · obtain⟨o',e1⟩:=I.base.there b o e hx
    exact there b o' (neC b o e hx) e1
  · obtain⟨m1,e1⟩:=I.base.tbls b ps e
    obtain⟨m2,e2⟩:=tbls b _ e1
    exact⟨m1++m2,by rw[e2,Array.append_assoc]⟩
  · obtain⟨m,hn,hl⟩:=I.loc
    refine⟨m,ns m hn,fun i x v e1 e2 e3=>?_⟩
    obtain⟨u,r,l⟩:=hl i x v e1 e2 e3
    refine⟨u,r,?_⟩
    rcases l with l | ⟨k,c,e,z⟩
    · exact .inl l
    · exact .inr ⟨k,c,e,cellK x c e _ z⟩
  · obtain⟨v,z⟩:=I.cell x c e
    exact⟨v,cellK x c e v z⟩
  · obtain⟨m,⟨o,_,_,ho,_⟩,_⟩:=I.loc
    exact free _ o (fun z=>(hch _ z).2.1 rfl) ho I.free
  · obtain⟨v,o,ho,hd⟩:=I.cell x c e
    exact free c o (fun z=>(hch c z).2.2.1 x c e rfl) ho (I.freeC x c e)
  · obtain⟨e,n,ne,nf,d⟩:=I.pin p hp
    have nch:p.1 ∉ ch:=fun z=>(hch p.1 z).2.2.2 p hp rfl
    exact⟨keep p.1 p.2 ne nf nch e n,free p.1 p.2 nch e n,ne,nf,d⟩
theorem Inv.un {t':Nat} (I:Inv X pins σ H s) (u:Un X.fs [] H H' s.heap h') (hok:HOk X.prog X.w H' h'):Inv X pins σ H' { s with heap:=h',toks:=t' }:=by
  obtain⟨m,⟨o,es,ep,ho,r⟩,_⟩:=id I.loc
  obtain⟨sl,hL⟩:=u.any ho I.free (by simp)
  exact I.step (g':=s.gens) (d':=s.drawn) (ch:=[]) (fun _ z=>nomatch z) (fun b o _ hb _ e n=>u.keep b o e n hb (by simp)) (fun b o _ hb _ e n=>u.slot b o e n hb (by simp)) (fun b o _ e n=>u.free b o e n (by simp)) (fun b o _ e=>u.there b o e (by simp)) u.tups u.frzs u.tbls (fun m' hm=>by
    obtain⟨o',es',ep',ho',r'⟩:=hm
    rw[ho] at ho';cases ho'
    exact⟨_,es',ep',hL,r'⟩) hok I.bare
theorem Inv.call {g':Array GenState} {t':Nat} {d':Drawn} {ch:List Addr} (I:Inv X pins σ H s) (u:Un (frs X.stack) ch H H' s.heap h') (hok:HOk X.prog X.w H' h') (hg:AllBare g')
    (hch:∀ b ∈ ch,(b ∈ X.ex\/X.s₀.heap.objs.size <= b)/\b ≠ X.env.locals/\(∀ x c,X.env.cells.lookup x=some c->c ≠ b)/\∀ p ∈ X.pn++pins,p.1 ≠ b) :
    Inv X pins σ H' { s with heap:=h',gens:=g',drawn:=d',toks:=t' }:=by
  obtain⟨m,⟨o,es,ep,ho,r⟩,_⟩:=id I.loc
  obtain⟨sl,hL⟩:=u.any ho I.free fun z=>(hch _ z).2.1 rfl
  exact I.step (ch:=ch) hch (fun b o hL hb hc e n=>u.keep b o e n (fun z=>(List.mem_cons.mp (I.stkSub b z)).elim hL hb) hc) (fun b o _ _ hc e n=>u.any e n hc) (fun b o hc e n=>u.free b o e n hc) (fun b o hc e=>u.there b o e hc) u.tups u.frzs u.tbls (fun m' hm=>by
    obtain⟨o',es',ep',ho',r'⟩:=hm
    rw[ho] at ho';cases ho'
    exact⟨_,es',ep',hL,r'⟩) hok hg
theorem Inv.turned {t':Nat} {it:Addr} (I:Inv X pins σ H s) (k:∀ b o,b ≠ it->s.heap.get? b=some o->h'.get? b=some o) (hn:H it=none) (hL:it ≠ X.env.locals)
    (h1:it ∈ X.ex\/X.s₀.heap.objs.size <= it) (h2:∀ x c,X.env.cells.lookup x=some c->c ≠ it) (h3:∀ p ∈ X.pn++pins,p.1 ≠ it):Inv X pins σ H { s with heap:=h',toks:=t' }:=by
  have nit:∀ b u,H b=some u->b ≠ it:=fun b u e z=>by rw[z,hn] at e;cases e
  refine I.step (g':=s.gens) (d':=s.drawn) (ch:=[it]) (fun b hb=>?_) (fun b o _ _ hc e _=>k b o (fun z=>hc (by simp[z])) e) (fun b o _ _ hc e _=>⟨o.slots,k b o (fun z=>hc (by simp[z])) e⟩) (fun _ _ _ _ n=>n)
    (fun b o hc e=>⟨o,k b o (fun z=>hc (by simp[z])) e⟩) (fun _ _ e=>e) (fun _ _ _ e=>e) (fun b ps e=>⟨#[],by rw[e];simp⟩) (fun m hm=>?_) (fun b u e=>?_) I.bare
  · have e:b=it:=by simpa using hb
    subst e
    exact⟨h1,hL,h2,h3⟩
  · obtain⟨o,es,ep,ho,r⟩:=hm
    exact⟨o,es,ep,k _ o (Ne.symm hL) ho,r⟩
  · refine (I.hok b u e).stay (fun c v hc q=>k c v ?_ q) (fun _ q=>q) fun _ _ q=>q
    rcases hc with z | z
    · rw[z];exact nit b u e
    · exact nit c _ z
theorem Inv.tok (I:Inv X pins σ H s) (t:Nat):Inv X pins σ H { s with toks:=t }:=I.un (h':=s.heap) (t':=t) Un.refl I.hok
theorem Inv.kept {t':Nat} (I:Inv X pins σ H s) (k:∀ b u,s.heap.get? b=some u->h'.get? b=some u):Inv X pins σ H { s with heap:=h',toks:=t' }:=I.un (Un.kept k) (I.hok.kept k)
theorem Inv.laid {a:Addr} {o:HO} {t':Nat} (I:Inv X pins σ H s) (k:∀ b u,s.heap.get? b=some u->h'.get? b=some u) (hp:s.heap.objs.size <= a) (new:ObjOk X.prog X.w (upd H a o) h' a o) :
    Inv X pins σ (upd H a o) { s with heap:=h',toks:=t' }:=I.un (Un.laid k hp (I.hok.fresh hp)) (I.hok.laid k hp new)
theorem Inv.write {x e:Addr} {o:HO} {t':Nat} (I:Inv X pins σ H s) (mu:Mut (H x)) (he:e=x\/H e=some (.own x)) (k:∀ b u,b ≠ e->s.heap.get? b=some u->h'.get? b=some u) (heo:∃ u,h'.get? e=some u)
    (new:ObjOk X.prog X.w (upd H x o) h' x o):Inv X pins σ (upd H x o) { s with heap:=h',toks:=t' }:=I.un (Un.write mu he k heo) (I.hok.write mu he k heo new)
theorem Inv.weak {σ':List (Option V)} (I:Inv X pins σ H s) (hl:σ'.length=σ.length) (w:∀ (i:Nat) v,σ'[i]?=some (some v)->σ[i]?=some (some v)):Inv X pins σ' H s:=
  ⟨I.ok,I.os,I.bare,I.base,let ⟨m,hn,hl'⟩:=I.loc;⟨m,hn,fun i x v e1 e2 e3=>hl' i x v e1 (w i v e2) e3⟩,I.cell,I.free,I.freeC,I.pin,I.hok,hl.trans I.len⟩
theorem Inv.pins_of {pins':List (Addr × Obj)} (I:Inv X pins σ H s) (h:∀ p ∈ pins',s.heap.get? p.1=some p.2/\H p.1=none/\p.1 ≠ X.env.locals/\p.1 ∉ X.fs/\∀ v,p.2.data ≠ .cell v):Inv X pins' σ H s:=
  ⟨I.ok,I.os,I.bare,I.base,I.loc,I.cell,I.free,I.freeC,fun p hp=>(List.mem_append.mp hp).elim (fun z=>I.pin p (List.mem_append_left _ z)) (h p),I.hok,I.len⟩
theorem gG {N:List Str} (hN:N.Nodup) {i j:Nat} {x:Str} (a:N[i]?=some x) (b:N[j]?=some x):i=j:=by
  obtain⟨h1,e1⟩:=List.getElem?_eq_some_iff.mp a
  obtain⟨h2,e2⟩:=List.getElem?_eq_some_iff.mp b
  exact (List.getElem_inj hN).mp (e1.trans e2.symm)
theorem mV {M:Model} {A:Around} {E:Value->Shared->Prop} {i:Nat} {x:Str} {v:V} {u:Value} {Q:Unit->Shared->Prop} (I:Inv X pins σ H s) (hN:X.N.Nodup) (hi:X.N[i]?=some x) (hx:Loc X.env.scope x) (r:RelV v u)
    (h:∀ s',Inv X pins (σ.set i (some v)) H s'->(∃ a,Heap.SameBut a s.heap s'.heap/\(a=X.env.locals\/X.env.cells.lookup x=some a))->Q () s') (hf:X.fn x=true\/X.env.scope.names.lookup x=some .local:=by first | exact .inl rfl | exact .inr rfl | assumption):wpAny M A (storeName X.env x u) Q E s:=by
  obtain⟨m,hn,hl⟩:=id I.loc
  have hcls:(X.env.scope.kind == .class || (X.env.scope.kind == .module && X.env.locals != X.env.globals))=false:=by rw[I.ok.kind];rfl
  have hiσ:i < σ.length:=by rw[I.len];exact (List.getElem?_eq_some_iff.mp hi).1
  have cne:=I.cne
  have tracked:∀ {a:Addr} {h':Heap},(∃ o,s.heap.get? a=some o/\H a=none)->Heap.SameBut a s.heap h'->HOk X.prog X.w H h':=fun {a h'} ha hs b ob e=>by
    obtain⟨_,_,hfree⟩:=ha
    refine (I.hok b ob e).stay (fun c w' hc q=>(hs.2 c ?_).trans q) (fun _ q=>q) fun _ _ q=>q
    rintro rfl
    rcases hc with rfl | hc
    · rw[hfree] at e;cases e
    · rw[hfree] at hc;cases hc
  rcases hx with hk | hk
  · refine wpAny_storeName_local hk hn (fun h' hn' hs=>?_) hcls
    obtain⟨oL,_,_,hoL,_⟩:=id hn
    refine h _ ⟨I.ok,I.os,I.bare,⟨fun b o e n hb hx=>?_,fun b o e n hb hx=>?_,I.base.free,fun b o e hx=>?_,I.base.tups,I.base.frzs,I.base.tbls⟩,⟨_,hn',fun j y v' e1 e2 e3=>?_⟩,fun y c e=>?_,I.free,I.freeC,fun p hp=>?_,tracked ⟨oL,hoL,I.free⟩ hs,by simpa using I.len⟩ ⟨_,hs,.inl rfl⟩
    · exact (hs.2 b (Nat.ne_of_lt (Nat.lt_of_lt_of_le (Heap.lt_size e) I.ok.above))).trans (I.base.keep b o e n hb hx)
    · obtain⟨sl,e1⟩:=I.base.slot b o e n hb hx
      exact⟨sl,(hs.2 b (Nat.ne_of_lt (Nat.lt_of_lt_of_le (Heap.lt_size e) I.ok.above))).trans e1⟩
    · obtain⟨o',e1⟩:=I.base.there b o e hx
      exact⟨o',(hs.2 b (Nat.ne_of_lt (Nat.lt_of_lt_of_le (Heap.lt_size e) I.ok.above))).trans e1⟩
    · by_cases hj:j=i
      · subst hj
        rw[hi] at e1;cases e1
        rw[List.getElem?_set_self hiσ] at e2
        cases e2
        exact⟨u,r,.inl ⟨hk,by simp⟩⟩
      · rw[List.getElem?_set_ne (Ne.symm hj)] at e2
        obtain⟨u',r',q⟩:=hl j y v' e1 e2 e3
        refine⟨u',r',?_⟩
        rcases q with ⟨k,e⟩ | ⟨k,c,e,z⟩
        · refine .inl ⟨k,?_⟩
          have:y ≠ x:=fun e=>hj (gG hN e1 (e ▸ hi))
          simp[this,e]
        · exact .inr ⟨k,c,e,z.sameBut hs (cne y c e)⟩
    · obtain⟨w',z⟩:=I.cell y c e
      exact⟨w',z.sameBut hs (cne y c e)⟩
    · obtain⟨e,n,ne,nf,d⟩:=I.pin p hp
      exact⟨(hs.2 p.1 ne).trans e,n,ne,nf,d⟩
  · have hfn:X.fn x=true:=by
      rcases hf with z | z
      · exact z
      · rw[z] at hk;cases hk
    obtain⟨c,hc⟩:=I.ok.has x (.inl hk)
    obtain⟨w',z⟩:=I.cell x c hc
    refine wpAny_storeName_cell I.ok.kind hk hc z (fun h' hc' hs=>?_)
    obtain⟨oc,hoc,hocd⟩:=id z
    refine h { s with heap:=h' } ⟨I.ok,I.os,I.bare,⟨fun b o e n hb hx=>?_,fun b o e n hb hx=>?_,I.base.free,fun b o e hx=>?_,I.base.tups,I.base.frzs,I.base.tbls⟩,⟨m,hn.sameBut hs (Ne.symm (cne x c hc)),fun j y v' e1 e2 e3=>?_⟩,fun y c' e=>?_,I.free,I.freeC,fun p hp=>?_,tracked ⟨oc,hoc,I.freeC x c hc⟩ hs,by simpa using I.len⟩ ⟨c,hs,.inr hc⟩
    · exact (hs.2 b (Nat.ne_of_lt (Nat.lt_of_lt_of_le (Heap.lt_size e) (I.ok.cab x c hfn hc)))).trans (I.base.keep b o e n hb hx)
    · obtain⟨sl,e1⟩:=I.base.slot b o e n hb hx
      exact⟨sl,(hs.2 b (Nat.ne_of_lt (Nat.lt_of_lt_of_le (Heap.lt_size e) (I.ok.cab x c hfn hc)))).trans e1⟩
    · obtain⟨o',e1⟩:=I.base.there b o e hx
      exact⟨o',(hs.2 b (Nat.ne_of_lt (Nat.lt_of_lt_of_le (Heap.lt_size e) (I.ok.cab x c hfn hc)))).trans e1⟩
    · by_cases hj:j=i
      · subst hj
        rw[hi] at e1;cases e1
        rw[List.getElem?_set_self hiσ] at e2
        cases e2
        exact⟨u,r,.inr ⟨.inl hk,c,hc,hc'⟩⟩
      · rw[List.getElem?_set_ne (Ne.symm hj)] at e2
        obtain⟨u',r',q⟩:=hl j y v' e1 e2 e3
        refine⟨u',r',?_⟩
        rcases q with q | ⟨k,c',e,z'⟩
        · exact .inl q
        · refine .inr ⟨k,c',e,z'.sameBut hs ?_⟩
          rintro rfl
          exact hj (gG hN e1 (I.ok.inj _ _ _ e hc ▸ hi))
    · by_cases hcc:c'=c
      · subst hcc;exact⟨_,hc'⟩
      · obtain⟨w2,z2⟩:=I.cell y c' e
        exact⟨w2,z2.sameBut hs hcc⟩
    · obtain⟨e,n,ne,nf,d⟩:=I.pin p hp
      refine⟨(hs.2 p.1 ?_).trans e,n,ne,nf,d⟩
      intro q
      rw[q,hoc] at e
      have q':oc=p.2:=Option.some.inj e
      exact d w' (by rw[<- q'];exact hocd)
theorem dR {M:Model} {A:Around} {E:Value->Shared->Prop} {i:Nat} {x:Str} {v:V} {u:Value} {Q:Unit->Shared->Prop} (I:Inv X pins σ H s) (hN:X.N.Nodup) (hi:X.N[i]?=some x) (hx:Loc X.env.scope x) (r:RelV v u)
    (h:∀ s',Inv X pins (σ.set i (some v)) H s'->Q () s') (hf:X.fn x=true\/X.env.scope.names.lookup x=some .local:=by first | exact .inl rfl | exact .inr rfl | assumption):wpAny M A (storeName X.env x u) Q E s:=
  mV I hN hi hx r (fun s' I' _=>h s' I') hf
theorem Inv.call' {s':Shared} {ch:List Addr} (I:Inv X pins σ H s) (ho:s'.os=s.os) (u:Un (frs X.stack) ch H H' s.heap s'.heap) (hok:HOk X.prog X.w H' s'.heap) (hg:AllBare s'.gens)
    (hch:∀ b ∈ ch,(b ∈ X.ex\/X.s₀.heap.objs.size <= b)/\b ≠ X.env.locals/\(∀ x c,X.env.cells.lookup x=some c->c ≠ b)/\∀ p ∈ X.pn++pins,p.1 ≠ b):Inv X pins σ H' s':=by
  obtain⟨h',g',d',t',o'⟩:=s'
  have e:o'=s.os:=ho
  subst e
  exact I.call (g':=g') (t':=t') (d':=d') u hok hg hch
end
abbrev XK:=Value->Option Addr->Hp->Prop
abbrev St:=List (Option V)
abbrev VK:=V->Hp->Prop
abbrev TE:=St->Hp->VK->Prop
abbrev TT:=St->Hp->(Bool->Hp->Prop)->Prop
abbrev TA:=St->Hp->(List V->Hp->Prop)->Prop
structure hX where
  nx:St->Hp->Prop
  rt:VK
  bk:St->Hp->Prop:=fun _ _=>False
  ct:St->Hp->Prop:=fun _ _=>False
abbrev TS:=hX->St->Hp->Prop
def EP (X:Cx) (pins:List (Addr × Obj)) (σ:St) (Q:VK) (u:Value) (s':Shared):Prop:=∃ v H',Inv X pins σ H' s'/\RelV v u/\Q v H'
def TP (X:Cx) (pins:List (Addr × Obj)) (σ:St) (Q:Bool->Hp->Prop) (b:Bool) (s':Shared):Prop:=∃ H',Inv X pins σ H' s'/\Q b H'
def AP (X:Cx) (pins:List (Addr × Obj)) (σ:St) (Q:List V->Hp->Prop) (us:List Value) (s':Shared):Prop:=∃ vs H',Inv X pins σ H' s'/\Vals vs us/\Q vs H'
def SP (X:Cx) (pins:List (Addr × Obj)) (D:hX) (f:Flow) (s':Shared):Prop:=
  match f with
  | .next=>∃ σ' H',Inv X pins σ' H' s'/\D.nx σ' H'
  | .brk=>∃ σ' H',Inv X pins σ' H' s'/\D.bk σ' H'
  | .cont=>∃ σ' H',Inv X pins σ' H' s'/\D.ct σ' H'
  | .ret u=>∃ v σ' H',Inv X pins σ' H' s'/\RelV v u/\D.rt v H'
def PE (X:Cx) (e:Expr) (t:TE):Prop:=
  ∀ (pins:List (Addr × Obj)) (s:Shared) (σ:St) (H:Hp) (Q:VK),Inv X pins σ H s->t σ H Q->wpAny (model X.prog X.w) X.A (eval e X.env) (EP X pins σ Q) X.xe s
def PT (X:Cx) (e:Expr) (t:TT):Prop:=
  ∀ (pins:List (Addr × Obj)) (s:Shared) (σ:St) (H:Hp) (Q:Bool->Hp->Prop),Inv X pins σ H s->t σ H Q->wpAny (model X.prog X.w) X.A (isTrue e X.env (eval e X.env)) (TP X pins σ Q) X.xe s
def PW (X:Cx) (e:Expr) (t:TT):Prop:=
  ∀ (whole:Sem Value) (pins:List (Addr × Obj)) (s:Shared) (σ:St) (H:Hp) (Q:Bool->Hp->Prop),Inv X pins σ H s->t σ H Q->wpAny (model X.prog X.w) X.A (isTrue e X.env whole) (TP X pins σ Q) X.xe s
theorem PW.pt {X:Cx} {e:Expr} {t:TT} (h:PW X e t):PT X e t:=h _
def PA (X:Cx) (es:List Expr) (t:TA):Prop:=
  ∀ (pos:Pos) (pins:List (Addr × Obj)) (s:Shared) (σ:St) (H:Hp) (Q:List V->Hp->Prop),Inv X pins σ H s->t σ H Q->wpAny (model X.prog X.w) X.A (spliced (backTo pos (starEach es X.env))) (AP X pins σ Q) X.xe s
def PS (X:Cx) (st:Stmt) (t:TS):Prop:=
  ∀ (pins:List (Addr × Obj)) (s:Shared) (σ:St) (H:Hp) (D:hX),Inv X pins σ H s->t D σ H->wpAny (model X.prog X.w) X.A (exec st X.env) (SP X pins D) X.xe s
def PSs (X:Cx) (st:List Stmt) (t:TS):Prop:=
  ∀ (pins:List (Addr × Obj)) (s:Shared) (σ:St) (H:Hp) (D:hX),Inv X pins σ H s->t D σ H->wpAny (model X.prog X.w) X.A (execs st X.env) (SP X pins D) X.xe s
theorem thn {α:Type} {t:Sem α} {Q Q':α->Shared->Prop} {M:Model} {A:Around} {E:Value->Shared->Prop} {s:Shared} (h:wpAny M A t Q E s) (hQ:∀ a s,Q a s->Q' a s):wpAny M A t Q' E s:=wpAny_mono h hQ fun _ _ x=>x
end L2
namespace L2
open PySem PySem.Spec PyProof.Rows
section
variable {X:Cx}
def tVar (i:Nat):TE:=fun σ H Q=>∃ v,σ[i]?=some (some v)/\Q v H
def tC (v:V):TE:=fun _ H Q=>Q v H
theorem wH {i:Nat} {x:Str} {pos:Pos} (hN:X.N[i]?=some x) (hv:Vis X.env.scope x) (hd:(x == ("__debug__" : Str))=false:=by decide) (hcd:(x == ("__classdict__" : Str))=false:=by decide):PE X (.Name x pos) (tVar i):=by
  intro pins s σ H Q I h
  obtain⟨v,e,h⟩:=h
  obtain⟨m,hn,hl⟩:=I.loc
  obtain⟨u,r,l⟩:=hl i x v hN e hv
  have fin:EP X pins σ Q u s:=⟨v,H,I,r,h⟩
  rcases l with ⟨hk,hm⟩ | ⟨hk,c,hc,hcell⟩
  · exact wpAny_Name (wpAny_loadName_local I.ok.kind hk hn hm fin) hd
  · rcases hk with hk | hk
    · exact wpAny_Name (wpAny_loadName_cell I.ok.kind hk hc hcell fin) hd
    · exact wpAny_Name (wpAny_loadName_free I.ok.kind hk hc hcell fin hcd) hd
theorem pe_int {i j pos}:PE X (.Constant (.int i) j pos) (tC (.int i)):=fun _ _ _ H _ I h=>wpAny_Constant_int ⟨.int i,H,I.tok _,⟨_,rfl⟩,h⟩
theorem pe_bl {b j pos}:PE X (.Constant (.bool b) j pos) (tC (.bl b)):=fun _ _ _ H _ I h=>Constant_bool ⟨.bl b,H,I,rfl,h⟩
theorem pe_non {j pos}:PE X (.Constant .none j pos) (tC .non):=fun _ _ _ H _ I h=>Constant_none ⟨.non,H,I,rfl,h⟩
theorem pe_str {x j pos}:PE X (.Constant (.str x) j pos) (tC (.str x)):=fun _ _ _ H _ I h=>Calls.Constant_str ⟨.str x,H,I.tok _,⟨_,rfl⟩,h⟩
def Gl (X:Cx) (x:Str):Prop:=X.env.kindOf x=some .globalImplicit
theorem eZ {E:Value->Shared->Prop} {pins:List (Addr × Obj)} {s:Shared} {σ:St} {H:Hp} {x:Str} {u:Value} {pos:Pos} {Q:Value->Shared->Prop} (I:Inv X pins σ H s) (hg:Gl X x) (hm:X.mg x=some u) (h:Q u s)
    (hd:(x == ("__debug__" : Str))=false:=by decide):wpAny (model X.prog X.w) X.A (eval (.Name x pos) X.env) Q E s:=
  Calls.Name_function_global I.ok.kind hg (Calls.loadGlobal_global (by rw[I.ok.glob];exact I.mod.glob.keeps I.bk) hm h) hd
theorem dg {E:Value->Shared->Prop} {pins:List (Addr × Obj)} {s:Shared} {σ:St} {H:Hp} {x:Str} {u:Value} {pos:Pos} {Q:Value->Shared->Prop} (I:Inv X pins σ H s) (hg:Gl X x) (hm:X.mg x=none) (hv:bootBuiltins x=some u) (h:Q u s)
    (hn:x ≠ "__name__":=by decide) (hd:(x == ("__debug__" : Str))=false:=by decide):wpAny (model X.prog X.w) X.A (eval (.Name x pos) X.env) Q E s:=by
  obtain⟨mb,h1,h2⟩:=I.mod.blt
  exact Calls.Name_function_global I.ok.kind hg (Calls.loadGlobal_builtin (by rw[I.ok.glob];exact I.mod.glob.keeps I.bk) hm (by rw[I.ok.blt];exact h1.keeps I.bk) ((h2 x hn).trans hv) h) hd
theorem pe_glob {x:Str} {v:V} {u:Value} {pos:Pos} (hg:Gl X x) (hm:X.mg x=some u) (r:RelV v u) (hd:(x == ("__debug__" : Str))=false:=by decide):PE X (.Name x pos) (tC v):=
  fun _ _ _ H _ I h=>eZ I hg hm ⟨v,H,I,r,h⟩ hd
theorem pe_bltn {x:Str} {v:V} {u:Value} {pos:Pos} (hg:Gl X x) (hm:X.mg x=none) (hv:bootBuiltins x=some u) (r:RelV v u) (hn:x ≠ "__name__":=by decide) (hd:(x == ("__debug__" : Str))=false:=by decide):PE X (.Name x pos) (tC v):=
  fun _ _ _ H _ I h=>dg I hg hm hv ⟨v,H,I,r,h⟩ hn hd
variable {a b:Expr} {ta tb:TE} {pos:Pos}
def PC (X:Cx) (op:CmpOp) (a b:Expr) (t:TE):Prop:=
  ∀ (pins:List (Addr × Obj)) (s:Shared) (σ:St) (H:Hp) (Q:VK),Inv X pins σ H s->t σ H Q ->
    wpAny (model X.prog X.w) X.A (eval a X.env) (fun v s₁=>wpAny (model X.prog X.w) X.A (eval b X.env) (fun u s₂=>wpAny (model X.prog X.w) X.A (compareOp op v u) (EP X pins σ Q) X.xe s₂) X.xe s₁) X.xe s
theorem qO (b:Expr) {op:CmpOp} (h:op ≠ .In) (h2:op ≠ .NotIn):behindInMarks op b=false:=by
  have e1:(op == CmpOp.In)=false:=by cases op <;> first | rfl | exact absurd rfl h
  have e2:(op == CmpOp.NotIn)=false:=by cases op <;> first | rfl | exact absurd rfl h2
  cases b <;> simp[behindInMarks,e1,e2]
def yl (ta:TE):TE:=fun σ H Q=>ta σ H fun x H1=>Q (.bl (decide (x=.non))) H1
theorem RelV.none_iff {x:V} {v:Value} (r:RelV x v):(v == Value.none)=decide (x=.non):=by
  cases x with
  | non=>cases r;rfl
  | bl _=>cases r;rfl
  | int _=>obtain⟨t,rfl⟩:=r;rfl
  | str _=>obtain⟨t,rfl⟩:=r;rfl
  | byt _=>obtain⟨t,rfl⟩:=r;rfl
  | flt _=>obtain⟨t,rfl⟩:=r;rfl
  | ref _=>cases r;rfl
  | ty _=>cases r;rfl
theorem wK {j pos'} (ha:PE X a ta):PC X .Is a (.Constant .none j pos') (yl ta):=by
  intro pins s σ H Q I h
  refine thn (ha pins s σ H _ I h) fun v s1 ⟨x,H1,I1,r1,q1⟩=>?_
  exact Constant_none (is_none_gen ⟨.bl _,H1,I1,by rw[r1.none_iff];rfl,q1⟩)
def tB (t:TE):TT:=fun σ H Q=>t σ H fun x H1=>∃ c,x=.bl c/\Q c H1
theorem wE {op:CmpOp} {t:TE} (h:PC X op a b t) (h1:behindInMarks op b=false:=by first | exact qO _ (by decide) (by decide) | rfl):PT X (.Compare a [op] [b] pos) (tB t):=by
  intro pins s σ H Q I hw
  refine wpAny_isTrue_Compare1 (thn (h pins s σ H _ I hw) fun v s1 h1=>thn h1 fun u s2 h2=>thn h2 fun c s3 ⟨x,H1,I1,r1,q1⟩=>?_) h1
  obtain⟨d,rfl,q⟩:=q1
  cases r1
  exact wpAny_truthy_bool ⟨H1,I1,q⟩
theorem pt_val {e:Expr} {t:TE} (h:PE X e t) (he:∀ whole,isTrue e X.env whole=(do let v <- whole;standAt e.pos;holding [v] (truthy v)):=by intro _;rfl):PT X e (tB t):=by
  intro pins s σ H Q I hw
  refine isTrue_plain (thn (h pins s σ H _ I hw) fun v s1 ⟨x,H1,I1,r1,q1⟩=>?_) (he _)
  obtain⟨d,rfl,q⟩:=q1
  cases r1
  exact wpAny_truthy_bool ⟨H1,I1,q⟩
variable {tA tB':TT} {rest:List Expr}
def tAnd (t u:TT):TT:=fun σ H Q=>t σ H fun c H1=>if c=true then u σ H1 Q else Q false H1
def tOr (t u:TT):TT:=fun σ H Q=>t σ H fun c H1=>if c=true then Q true H1 else u σ H1 Q
def tNot (t:TT):TT:=fun σ H Q=>t σ H fun c H1=>Q (!c) H1
theorem pw_and1 (ha:PT X a tA):PW X (.BoolOp .And [a] pos) tA:=by
  intro wh pins s σ H Q I h
  refine isTrue_and (thn (ha pins s σ H Q I h) fun c s1 e=>?_)
  cases c with
  | true=>exact isTrue_and_nil e
  | false=>exact e
theorem pw_or1 (ha:PT X a tA):PW X (.BoolOp .Or [a] pos) tA:=by
  intro wh pins s σ H Q I h
  refine isTrue_or (thn (ha pins s σ H Q I h) fun c s1 e=>?_)
  cases c with
  | false=>exact isTrue_or_nil e
  | true=>exact e
theorem pw_and (ha:PT X a tA) (hb:PW X (.BoolOp .And (b::rest) pos) tB'):PW X (.BoolOp .And (a::b::rest) pos) (tAnd tA tB'):=by
  intro wh pins s σ H Q I h
  refine isTrue_and (thn (ha pins s σ H _ I h) fun c s1 ⟨H1,I1,q1⟩=>?_)
  cases c with
  | true=>exact hb wh pins s1 σ H1 Q I1 q1
  | false=>exact⟨H1,I1,q1⟩
theorem pw_or (ha:PT X a tA) (hb:PW X (.BoolOp .Or (b::rest) pos) tB'):PW X (.BoolOp .Or (a::b::rest) pos) (tOr tA tB'):=by
  intro wh pins s σ H Q I h
  refine isTrue_or (thn (ha pins s σ H _ I h) fun c s1 ⟨H1,I1,q1⟩=>?_)
  cases c with
  | true=>exact⟨H1,I1,q1⟩
  | false=>exact hb wh pins s1 σ H1 Q I1 q1
theorem pt_not (ha:PT X a tA):PT X (.UnaryOp .Not a pos) (tNot tA):=by
  intro pins s σ H Q I h
  exact isTrue_not (ha pins s σ H (fun c H1=>Q (!c) H1) I h)
def tAndV (ta tb:TE):TE:=fun σ H Q=>ta σ H fun x H1=>∃ c,x=.bl c/\if c=true then tb σ H1 Q else Q (.bl false) H1
def tNotV (ta:TE):TE:=fun σ H Q=>ta σ H fun x H1=>∃ c,x=.bl c/\Q (.bl (!c)) H1
theorem pe_one {op} {t:TE} (h:PE X a t):PE X (.BoolOp op [a] pos) t:=fun pins s σ H Q I hw=>BoolOp_one (h pins s σ H Q I hw)
theorem pe_and (ha:PE X a ta) (hb:PE X (.BoolOp .And (b::rest) pos) tb):PE X (.BoolOp .And (a::b::rest) pos) (tAndV ta tb):=by
  intro pins s σ H Q I h
  refine BoolOp_and (thn (ha pins s σ H _ I h) fun v s1 ⟨x,H1,I1,r1,q1⟩=>?_)
  obtain⟨c,rfl,q1⟩:=q1
  cases r1
  refine wpAny_truthy_bool ?_
  cases c with
  | true=>exact hb pins s1 σ H1 Q I1 q1
  | false=>exact⟨.bl false,H1,I1,rfl,q1⟩
theorem pe_not (ha:PE X a ta):PE X (.UnaryOp .Not a pos) (tNotV ta):=by
  intro pins s σ H Q I h
  refine UnaryOp_ (thn (ha pins s σ H _ I h) fun v s1 ⟨x,H1,I1,r1,q1⟩=>?_)
  obtain⟨c,rfl,q1⟩:=q1
  cases r1
  exact not_of (wpAny_truthy_bool ⟨.bl (!c),H1,I1,rfl,q1⟩)
def tIf (t:TT) (ta tb:TE):TE:=fun σ H Q=>t σ H fun c H1=>if c=true then ta σ H1 Q else tb σ H1 Q
theorem pe_ifExp {c:Expr} (hc:PT X c tA) (ha:PE X a ta) (hb:PE X b tb):PE X (.IfExp c a b pos) (tIf tA ta tb):=by
  intro pins s σ H Q I h
  refine wpAny_IfExp (thn (hc pins s σ H _ I h) fun d s1 ⟨H1,I1,q1⟩=>?_)
  cases d with
  | true=>exact ha pins s1 σ H1 Q I1 q1
  | false=>exact hb pins s1 σ H1 Q I1 q1
end
end L2
namespace L2
open PySem PySem.Spec PyProof.Rows
def SqL (K:W.Frag) (H:Hp) (a:Addr) (xs:List V):Prop:=
  Rd H a (.lst xs) \/
    ∃ (o:Obj) (its:Array Value) (n:Nat),K.lookup a=some o/\o.cls=.type "list"/\o.dict=none/\o.data=.seq its n/\its.size <= sizeLine/\Vals xs its.toList
def SqT (K:W.Frag) (H:Hp) (a:Addr) (xs:List V):Prop:=
  Rd H a (.tup xs) \/
    ∃ (o:Obj) (its:Array Value) (n:Nat),K.lookup a=some o/\o.cls=.type "tuple"/\o.data=.seq its n/\its.size <= sizeLine/\Vals xs its.toList
noncomputable def yY:Value->Option V
  | .none=>some .non
  | .bool b=>some (.bl b)
  | .int i _=>some (.int i)
  | .str x _=>some (.str x)
  | .bytes b _=>some (.byt b)
  | .float b _=>some (.flt b)
  | .ref a=>some (.ref a)
  | .type n=>some (.ty n)
  | _=>none
theorem RelV.abs {x:V} {u:Value} (r:RelV x u):yY u=some x:=by
  cases x with
  | non=>cases r;rfl
  | bl _=>cases r;rfl
  | int _=>obtain⟨t,rfl⟩:=r;rfl
  | str _=>obtain⟨t,rfl⟩:=r;rfl
  | byt _=>obtain⟨t,rfl⟩:=r;rfl
  | flt _=>obtain⟨t,rfl⟩:=r;rfl
  | ref _=>cases r;rfl
  | ty _=>cases r;rfl
theorem RelV.inj {x y:V} {u:Value} (r:RelV x u) (q:RelV y u):x=y:=Option.some.inj (r.abs.symm.trans q.abs)
theorem Vals.inj:∀ {xs ys:List V} {us:List Value},Vals xs us->Vals ys us->xs=ys
  | _,_,_,.nil,.nil=>rfl
  | _,_,_,.cons r t,.cons r' t'=>by rw[r.inj r',Vals.inj t t']
section
variable {X:Cx} {pins:List (Addr × Obj)} {σ:St} {H:Hp} {s:Shared} {a:Addr} {xs ys:List V}
theorem SqL.of {K:W.Frag} (h:H a=some (.lst xs)):SqL K H a xs:=.inl (.inl h)
theorem SqT.of {K:W.Frag} (h:H a=some (.tup xs)):SqT K H a xs:=.inl (.inl h)
theorem Inv.list (I:Inv X pins σ H s) (h:SqL X.K H a xs):∃ its:List Value,Vals xs its/\PlainL s.heap a its.toArray/\xs.length <= sizeLine:=by
  rcases h with h | ⟨o,its,n,hk,hc,hd,hs,hz,r⟩
  · obtain⟨z,its,n,r,e⟩:=h.ok I.hok
    exact⟨its,r,⟨_,n,e,rfl,rfl,rfl⟩,z⟩
  · refine⟨its.toList,r,⟨o,n,I.kIn a o hk,hc,hd,by simpa using hs⟩,?_⟩
    have e:=r.length
    simp only[Array.length_toList] at e
    omega
theorem Inv.tuple (I:Inv X pins σ H s) (h:SqT X.K H a xs):∃ its:List Value,Vals xs its/\IsTup s.heap a its.toArray/\xs.length <= sizeLine:=by
  rcases h with h | ⟨o,its,n,hk,hc,hs,hz,r⟩
  · obtain⟨z,its,r,p⟩:=h.ok I.hok
    exact⟨its,r,p,z.1⟩
  · refine⟨its.toList,r,⟨o,I.kIn a o hk,hc,n,by simpa using hs⟩,?_⟩
    have e:=r.length
    simp only[Array.length_toList] at e
    omega
theorem Inv.list_inj (I:Inv X pins σ H s) (h:SqL X.K H a xs) (h':SqL X.K H a ys):xs=ys:=by
  obtain⟨its,r,⟨o,n,e,_,_,d⟩,_⟩:=I.list h
  obtain⟨its',r',⟨o',n',e',_,_,d'⟩,_⟩:=I.list h'
  rw[e] at e';cases e'
  rw[d] at d'
  injection d' with d1 _
  have:its=its':=by simpa using congrArg Array.toList d1
  subst this
  exact r.inj r'
theorem Inv.tuple_inj (I:Inv X pins σ H s) (h:SqT X.K H a xs) (h':SqT X.K H a ys):xs=ys:=by
  obtain⟨its,r,⟨o,e,_,n,d⟩,_⟩:=I.tuple h
  obtain⟨its',r',⟨o',e',_,n',d'⟩,_⟩:=I.tuple h'
  rw[e] at e';cases e'
  rw[d] at d'
  injection d' with d1 _
  have:its=its':=by simpa using congrArg Array.toList d1
  subst this
  exact r.inj r'
end
abbrev Cx.wish (X:Cx) (E:Value->Shared->Prop):Cx:={ X with xe:=E }
abbrev Cx.nox (X:Cx):Cx:=X.wish fun _ _=>False
theorem Cx.Ok.wish {X:Cx} (ok:X.Ok) (E:Value->Shared->Prop):(X.wish E).Ok:=
  ⟨ok.mod,ok.kind,ok.glob,ok.blt,ok.above,ok.inj,ok.has,ok.cab,ok.hd,ok.frames,ok.stk,ok.exf,ok.bs,ok.bsz,ok.noex,ok.exfs,ok.funs,ok.frf⟩
theorem Cx.Ok.unwish {X:Cx} {E:Value->Shared->Prop} (ok:(X.wish E).Ok):X.Ok:=
  ⟨ok.mod,ok.kind,ok.glob,ok.blt,ok.above,ok.inj,ok.has,ok.cab,ok.hd,ok.frames,ok.stk,ok.exf,ok.bs,ok.bsz,ok.noex,ok.exfs,ok.funs,ok.frf⟩
section
variable {X:Cx} {pins:List (Addr × Obj)} {σ:St} {H:Hp} {s:Shared} {E:Value->Shared->Prop}
theorem Inv.wish (I:Inv X pins σ H s) (E:Value->Shared->Prop):Inv (X.wish E) pins σ H s:=⟨I.ok.wish E,I.os,I.bare,I.base,I.loc,I.cell,I.free,I.freeC,I.pin,I.hok,I.len⟩
theorem Inv.unwish (I:Inv (X.wish E) pins σ H s):Inv X pins σ H s:=⟨I.ok.unwish,I.os,I.bare,I.base,I.loc,I.cell,I.free,I.freeC,I.pin,I.hok,I.len⟩
theorem SP.unwish {D:hX} {f:Flow} {s':Shared} (h:SP (X.wish E) pins D f s'):SP X pins D f s':=by
  cases f with
  | next=>obtain⟨σ',H',I,q⟩:=h;exact⟨σ',H',I.unwish,q⟩
  | brk=>obtain⟨σ',H',I,q⟩:=h;exact⟨σ',H',I.unwish,q⟩
  | cont=>obtain⟨σ',H',I,q⟩:=h;exact⟨σ',H',I.unwish,q⟩
  | ret u=>obtain⟨v,σ',H',I,r,q⟩:=h;exact⟨v,σ',H',I.unwish,r,q⟩
theorem PSs.nox {st:List Stmt} {t:TS} (h:PSs X.nox st t):PSs X st t:=fun pins s σ H D I hw=>
  wpAny_mono (h pins s σ H D (I.wish _) hw) (fun _ _ q=>q.unwish) fun _ _ z=>False.elim z
end
section
variable {X:Cx} {st:Stmt} {rest:List Stmt} {t u:TS} {e:Expr} {te:TE} {pos:Pos}
def tNext:TS:=fun D σ H=>D.nx σ H
def tSeq (t u:TS):TS:=fun D σ H=>t { D with nx:=u D } σ H
theorem pss_nil:PSs X [] tNext:=fun _ _ σ H _ I h=>wpAny_execs_nil ⟨σ,H,I,h⟩
theorem pss_cons (h1:PS X st t) (h2:PSs X rest u):PSs X (st::rest) (tSeq t u):=by
  intro pins s σ H D I h
  refine wpAny_execs_cons (thn (h1 pins s σ H { D with nx:=u D } I h) fun f s1 q=>?_)
  cases f with
  | next=>
    obtain⟨σ',H',I',q⟩:=q
    exact h2 pins s1 σ' H' D I' q
  | ret v=>exact q
  | brk=>exact q
  | cont=>exact q
theorem pss_one (h1:PS X st t):PSs X [st] t:=by
  intro pins s σ H D I h
  refine wpAny_execs_cons (thn (h1 pins s σ H D I h) fun f s1 q=>?_)
  cases f with
  | next=>exact wpAny_execs_nil q
  | ret v=>exact q
  | brk=>exact q
  | cont=>exact q
theorem Inv.quiet {pins:List (Addr × Obj)} {σ:St} {H:Hp} {s:Shared} (I:Inv X pins σ H s):interactive X.env=false:=by simp[interactive,I.ok.kind]
def tDrop (te:TE):TS:=fun D σ H=>te σ H fun _ H1=>D.nx σ H1
theorem ps_expr (he:PE X e te) (hs:swapsWith e none pos.line X.env=pure false:=by rfl):PS X (.Expr e pos) (tDrop te):=by
  intro pins s σ H D I h
  exact wpAny_Expr_any (thn (he pins s σ H _ I h) fun v s1 ⟨x,H1,I1,r1,q1⟩=>⟨σ,H1,I1,q1⟩) I.quiet hs
def tRet (te:TE):TS:=fun D σ H=>te σ H D.rt
theorem ps_ret (he:PE X e te):PS X (.Return (some e) pos) (tRet te):=by
  intro pins s σ H D I h
  exact wpAny_Return_some (thn (he pins s σ H _ I h) fun v s1 ⟨x,H1,I1,r1,q1⟩=>⟨x,σ,H1,I1,r1,q1⟩)
def tIfS (c:TT) (t u:TS):TS:=fun D σ H=>c σ H fun b H1=>if b=true then t D σ H1 else u D σ H1
theorem ps_if {c:Expr} {a b:List Stmt} {tc:TT} (hc:PT X c tc) (ha:PSs X a t) (hb:PSs X b u):PS X (.If c a b pos) (tIfS tc t u):=by
  intro pins s σ H D I h
  refine wpAny_If (thn (hc pins s σ H _ I h) fun d s1 ⟨H1,I1,q1⟩=>?_)
  cases d with
  | true=>exact ha pins s1 σ H1 D I1 q1
  | false=>exact hb pins s1 σ H1 D I1 q1
end
abbrev TG:=V->St->Hp->(St->Hp->Prop)->Prop
abbrev TGs:=List V->St->Hp->(St->Hp->Prop)->Prop
def PG (X:Cx) (target:Expr) (t:TG):Prop:=
  ∀ (pins:List (Addr × Obj)) (s:Shared) (σ:St) (H:Hp) (v:V) (u:Value) (Q:St->Hp->Prop),Inv X pins σ H s->RelV v u->t v σ H Q ->
    wpAny (model X.prog X.w) X.A (assign target X.env u) (fun _ s'=>∃ σ' H',Inv X pins σ' H' s'/\Q σ' H') X.xe s
def PGs (X:Cx) (ts:List Expr) (t:TGs):Prop:=
  ∀ (pins:List (Addr × Obj)) (s:Shared) (σ:St) (H:Hp) (vs:List V) (us:List Value) (Q:St->Hp->Prop),Inv X pins σ H s->Vals vs us->t vs σ H Q ->
    wpAny (model X.prog X.w) X.A (assignInOrder ((assignEach ts X.env).map (·.2)) us) (fun _ s'=>∃ σ' H',Inv X pins σ' H' s'/\Q σ' H') X.xe s
abbrev xt:=V->V->V->Hp->(Hp->Prop)->Prop
def yh (X:Cx) (t:xt):Prop:=
  ∀ (pins:List (Addr × Obj)) (s:Shared) (σ:St) (H:Hp) (o i v:V) (ov iv u:Value) (Q:Hp->Prop),Inv X pins σ H s->RelV o ov->RelV i iv->RelV v u->t o i v H Q ->
    wpAny (model X.prog X.w) X.A (setItem ov iv u) (fun _ s'=>∃ H',Inv X pins σ H' s'/\Q H') X.xe s
section
variable {X:Cx} {pos:Pos}
def gName (i:Nat):TG:=fun v σ H Q=>Q (σ.set i (some v)) H
theorem pg_name {i:Nat} {x:Str} (hN:X.N.Nodup) (hi:X.N[i]?=some x) (hx:Loc X.env.scope x) (hf:X.fn x=true\/X.env.scope.names.lookup x=some .local:=by first | exact .inl rfl | exact .inr rfl | assumption):PG X (.Name x pos) (gName i):=by
  intro pins s σ H v u Q I r h
  exact wpAny_assign_Name (dR I hN hi hx r (fun s' I'=>⟨_,H,I',h⟩) hf)
def gNil:TGs:=fun vs σ H Q=>vs=[]/\Q σ H
def gCons (t:TG) (u:TGs):TGs:=fun vs σ H Q=>∃ v r,vs=v::r/\t v σ H fun σ' H'=>u r σ' H' Q
theorem pgs_nil:PGs X [] gNil:=by
  intro pins s σ H vs us Q I r h
  obtain⟨e,h⟩:=h
  subst e
  cases r
  exact assignInOrder_nil ⟨σ,H,I,h⟩
theorem pgs_cons {e:Expr} {es:List Expr} {t:TG} {u:TGs} (h1:PG X e t) (h2:PGs X es u)
    (hs:(assignEach (e::es) X.env).map (·.2)=assign e X.env::(assignEach es X.env).map (·.2):=by rfl):PGs X (e::es) (gCons t u):=by
  intro pins s σ H vs us Q I r h
  obtain⟨v,vr,e1,h⟩:=h
  subst e1
  cases r with
  | cons r rr=>
    rw[hs]
    refine assignInOrder_cons (thn (h1 pins s σ H _ _ _ I r h) fun _ s1 ⟨σ1,H1,I1,q1⟩=>?_)
    exact h2 pins s1 σ1 H1 _ _ Q I1 rr q1
def gTup (K:W.Frag) (n:Nat) (t:TGs):TG:=fun v σ H Q=>∃ a xs,v=.ref a/\SqT K H a xs/\xs.length=n/\t xs σ H Q
theorem pg_tup {es:List Expr} {k:Nat} {t:TGs} {n:Nat} (hc:X.calm=true) (h:PGs X es t)
    (hn:(assignEach es X.env).length=n:=by rfl) (hst:(assignEach es X.env).findIdx? (·.1)=none:=by rfl):PG X (.Tuple es k pos) (gTup X.K n t):=by
  intro pins s σ H v u Q I r hw
  obtain⟨a,xs,e1,hq,hl,hw⟩:=hw
  subst e1
  cases r
  obtain⟨its,rv,ht,hz⟩:=I.tuple hq
  refine assign_Tuple_tuple (I.ok.hd hc) ht (by simp[hn,<- hl,rv.length]) hst fun h' hx=>?_
  have I1:Inv X pins σ H { s with heap:=h' }:=I.kept (t':=s.toks) fun b o e=>hx b o (Nat.ne_of_lt (Heap.lt_size e)) e
  exact h pins _ σ H xs _ Q I1 (by simpa using rv) hw
def gSub (to ti:TE) (t:xt):TG:=fun v σ H Q=>to σ H fun o H1=>ti σ H1 fun i H2=>t o i v H2 fun H3=>Q σ H3
theorem pg_sub {o i:Expr} {to ti:TE} {t:xt} (ho:PE X o to) (hi:PE X i ti) (hs:yh X t)
    (ha:∀ v,assign (.Subscript o i pos) X.env v=(do
      let ov <- holding [v] (eval o X.env)
      let iv <- holding [v,ov] (eval i X.env)
      standAt pos
      holding [v,ov,iv] (setItem ov iv v)
      release [v,ov,iv] []):=by intro _;rfl):PG X (.Subscript o i pos) (gSub to ti t):=by
  intro pins s σ H v u Q I r h
  rw[ha]
  refine wpAny_bind (wpAny_holding (thn (ho pins s σ H _ I h) fun ov s1 ⟨x,H1,I1,r1,q1⟩=>?_))
  refine wpAny_bind (wpAny_holding (thn (hi pins s1 σ H1 _ I1 q1) fun iv s2 ⟨y,H2,I2,r2,q2⟩=>?_))
  refine wpAny_bind (wpAny_standAt (wpAny_bind (wpAny_holding (thn (hs pins s2 σ H2 x y v ov iv u _ I2 r1 r2 r q2) fun _ s3 ⟨H3,I3,q3⟩=>?_))))
  exact wpAny_release ⟨σ,H3,I3,q3⟩
def tAsg (te:TE) (g:TG):TS:=fun D σ H=>te σ H fun x H1=>g x σ H1 D.nx
theorem ps_asg {tg e:Expr} {te:TE} {g:TG} (he:PE X e te) (hg:PG X tg g) (hs:swapsWithSole [tg] e pos.line X.env=pure false:=by rfl) (hw:swappedStores [tg] e X.env=pure none:=by rfl)
    (h1:(assignEach [tg] X.env).map (·.2)=[assign tg X.env]:=by rfl):PS X (.Assign [tg] e pos) (tAsg te g):=by
  intro pins s σ H D I h
  refine wpAny_Assign_stores (thn (he pins s σ H _ I h) fun v s1 ⟨x,H1,I1,r1,q1⟩=>?_) hs hw
  rw[h1]
  exact thn (hg pins s1 σ H1 x v _ I1 r1 q1) fun _ s2 q=>q
theorem ps_set {i:Nat} {x:Str} {e:Expr} {te:TE} {pos':Pos} (hN:X.N.Nodup) (hi:X.N[i]?=some x) (hx:Loc X.env.scope x) (he:PE X e te) (hs:swapsWith e (some (.Name x pos')) pos.line X.env=pure false:=by rfl) (hf:X.fn x=true\/X.env.scope.names.lookup x=some .local:=by first | exact .inl rfl | exact .inr rfl | assumption) :
    PS X (.Assign [.Name x pos'] e pos) (tAsg te (gName i)):=by
  intro pins s σ H D I h
  refine wpAny_Assign_Name (thn (he pins s σ H _ I h) fun v s1 ⟨y,H1,I1,r1,q1⟩=>?_) hs
  exact dR I1 hN hi hx r1 (fun s2 I2=>⟨_,H1,I2,q1⟩) hf
end
section
variable {X:Cx} {pos:Pos}
def tWhile (c:TT) (tb:TS):TS:=fun D σ H=>∃ W:Nat->St->Hp->Prop,(∃ m,W m σ H)/\∀ m σ H,W m σ H ->
  c σ H fun b H1=>if b=true then ∃ N:St->Hp->Prop,(∀ σ' H',N σ' H'->∃ m',m' < m/\W m' σ' H')/\tb { D with nx:=N,ct:=N,bk:=D.nx } σ H1 else D.nx σ H1
theorem ps_while {c:Expr} {body:List Stmt} {tc:TT} {tb:TS} (hp:PassesOwn (model X.prog X.w) X.A X.env X.xe) (hc:PT X c tc) (hb:PSs X body tb):PS X (.While c body [] pos) (tWhile tc tb):=by
  intro pins s σ H D I h
  obtain⟨W,⟨m0,w0⟩,turn⟩:=h
  refine wpAny_While (codeAny_whileLoop (fun n s'=>∃ σ' H',Inv X pins σ' H' s'/\W n σ' H') ?_ m0 ⟨σ,H,I,w0⟩)
  rintro n s1 ⟨σ1,H1,I1,w1⟩
  refine wpAny_passesOwn hp (thn (hc pins s1 σ1 H1 _ I1 (turn n σ1 H1 w1)) fun b s2 ⟨H2,I2,q2⟩=>?_)
  cases b with
  | true=>
    obtain⟨N,hN,q2⟩:=q2
    rw[if_pos rfl]
    refine wpAny_passesOwn hp (thn (hb pins s2 σ1 H2 _ I2 q2) fun f s3 q3=>?_)
    cases f with
    | next=>
      obtain⟨σ3,H3,I3,n3⟩:=q3
      obtain⟨m',hm,w3⟩:=hN σ3 H3 n3
      exact⟨m',hm,σ3,H3,I3,w3⟩
    | cont=>
      obtain⟨σ3,H3,I3,n3⟩:=q3
      obtain⟨m',hm,w3⟩:=hN σ3 H3 n3
      exact⟨m',hm,σ3,H3,I3,w3⟩
    | brk=>exact q3
    | ret v=>exact q3
  | false=>
    rw[if_neg Bool.false_ne_true]
    exact wpAny_execs_nil ⟨σ1,H2,I2,q2⟩
end
structure It where
  go:Nat->Hp->Prop
  yld:Nat->Hp->V->Hp->Prop
  stop:Nat->Hp->Prop
def mE (X:Cx) (pins:List (Addr × Obj)) (H:Hp) (b:Addr):Prop:=
  H b=none/\b ≠ X.env.locals/\b ∉ X.fs/\(b ∈ X.ex\/X.s₀.heap.objs.size <= b)/\(∀ x c,X.env.cells.lookup x=some c->c ≠ b)/\∀ p ∈ X.pn++pins,p.1 ≠ b
theorem Inv.fpOk {X:Cx} {pins:List (Addr × Obj)} {σ:St} {H H':Hp} {s:Shared} {b:Addr} (I:Inv X pins σ H s) (hb:s.heap.objs.size <= b) (hn:H' b=none):mE X pins H' b:=by
  refine⟨hn,Nat.ne_of_gt (Nat.lt_of_lt_of_le I.lt hb),I.nofs hb,.inr (Nat.le_trans I.sz hb),fun x c e z=>?_,fun p hp z=>?_⟩
  · obtain⟨v,q⟩:=I.cell x c e
    exact absurd (Nat.lt_of_lt_of_le q.lt (by rw[z];exact hb)) (Nat.lt_irrefl _)
  · exact absurd (Nat.lt_of_lt_of_le (Heap.lt_size (I.pin p hp).1) (by rw[z];exact hb)) (Nat.lt_irrefl _)
structure vp (P:Program) (w:World) (K:W.Frag) (tg:Expr) (J:It) (fp:List Addr) (it:Addr) (tn:Nat->Heap->Prop):Prop where
  mem:it ∈ fp
  obj:∀ i h,tn i h->∀ b ∈ fp,∃ o,h.get? b=some o/\∀ v,o.data ≠ .cell v
  keep:∀ i h h',tn i h->(∀ b ∈ fp,∀ o,h.get? b=some o->h'.get? b=some o)->tn i h'
  item:∀ (X:Cx),X.prog=P->X.w=w->X.K=K->X.calm=true->∀ (i:Nat) (pins:List (Addr × Obj)) (s:Shared) (σ:St) (H:Hp) (E:Value->Shared->Prop),Inv X pins σ H s->(∀ b ∈ fp,mE X pins H b)->tn i s.heap->J.go i H ->
    wpAny (model P w) X.A (pyNext (.ref it)) (fun r s1=>∃ u,r=some u /\
      wpAny (model P w) X.A (letOwnedTupleGo tg (.ref it) u) (fun _ s2=>∃ x H',Inv X pins σ H' s2/\RelV x u/\J.yld i H x H'/\tn (i+1) s2.heap/\∀ b ∈ fp,H' b=none) E s1) E s
  done:∀ (X:Cx),X.prog=P->X.w=w->X.K=K->X.calm=true->∀ (i:Nat) (pins:List (Addr × Obj)) (s:Shared) (σ:St) (H:Hp) (E:Value->Shared->Prop),Inv X pins σ H s->(∀ b ∈ fp,mE X pins H b)->tn i s.heap->J.stop i H ->
    wpAny (model P w) X.A (pyNext (.ref it)) (fun r s1=>r=none/\Inv X pins σ H s1) E s
  self:∀ (A:Around) (i:Nat) (s:Shared) (Q:Value->Shared->Prop) (E:Value->Shared->Prop),tn i s.heap->Q (.ref it) s->wpAny (model P w) A (pyIter (.ref it)) Q E s
abbrev TI:=St->Hp->(It->Hp->Prop)->Prop
def PIE (X:Cx) (pins:List (Addr × Obj)) (σ:St) (tg:Expr) (R:It->Hp->Prop) (itv:Value) (s2:Shared):Prop:=
  ∃ (it:Addr) (fp:List Addr) (tn:Nat->Heap->Prop) (J:It) (H':Hp),itv=.ref it/\Inv X pins σ H' s2/\vp X.prog X.w X.K tg J fp it tn/\tn 0 s2.heap/\(∀ b ∈ fp,mE X pins H' b)/\R J H'
def PI (X:Cx) (tg iter:Expr) (wi:TI):Prop:=
  ∀ (pins:List (Addr × Obj)) (s:Shared) (σ:St) (H:Hp) (R:It->Hp->Prop),Inv X pins σ H s->wi σ H R ->
    wpAny (model X.prog X.w) X.A (eval iter X.env) (fun v s1=>wpAny (model X.prog X.w) X.A (pyIter v) (PIE X pins σ tg R) X.xe s1) X.xe s
theorem qY {M:Model} {A:Around} {E:Value->Shared->Prop} {s:Shared} {tg:Expr} {it:Addr} {u:Value} {o:Obj} {n:String} {vs:Array Value} {Q:Unit->Shared->Prop} (ho:s.heap.get? it=some o) (hc:o.cls=.type n) (hd:o.data=.fields vs)
    (hn:["enumerate", "zip", "dict_itemiterator", "dict_reverseitemiterator", "odict_iterator", "itertools.zip_longest", "itertools.pairwise"].contains n=false) (hQ:Q () s):wpAny M A (letOwnedTupleGo tg (.ref it) u) Q E s:=by
  unfold letOwnedTupleGo
  cases tg <;> first
    | exact wpAny_pure hQ
    | (cases u <;> first
        | exact wpAny_pure hQ
        | (refine wpAny_bind (wpAny_load ho ?_)
           rw[hc,hd]
           show wpAny M A (if (["enumerate", "zip", "dict_itemiterator", "dict_reverseitemiterator", "odict_iterator", "itertools.zip_longest", "itertools.pairwise"].contains n && vs[0]? == some (rawInt _))=true then _ else _) Q E s
           rw[if_neg (by intro h;rw[hn,Bool.false_and] at h;cases h)]
           exact wpAny_pure hQ))
def Itl (K:W.Frag) (a:Addr):It:=
  ⟨fun i H=>∃ xs x,SqL K H a xs/\xs[i]?=some x,fun i H x H'=>H'=H/\∀ xs,SqL K H a xs->xs[i]?=some x,fun i H=>∃ xs,SqL K H a xs/\xs.length <= i⟩
def Itt (K:W.Frag) (a:Addr):It:=
  ⟨fun i H=>∃ xs x,SqT K H a xs/\xs[i]?=some x,fun i H x H'=>H'=H/\∀ xs,SqT K H a xs->xs[i]?=some x,fun i H=>∃ xs,SqT K H a xs/\xs.length <= i⟩
def Itr (lo:Int) (n:Nat):It:=⟨fun i _=>i < n,fun i H x H'=>H'=H/\x=.int (lo+i),fun i _=>n <= i⟩
theorem mO {P:Program} {w:World} {K:W.Frag} {tg:Expr} (a it:Addr):vp P w K tg (Itl K a) [it] it (fun i h=>h.IsListIter it a i) where
  mem:=by simp
  obj:=fun i h st b hb=>by
    have e:b=it:=by simpa using hb
    subst e
    obtain⟨o,e,c,d⟩:=st
    exact⟨o,e,fun v z=>by rw[d] at z;cases z⟩
  keep:=fun i h h' st k=>st.at fun o e=>k it (by simp) o e
  item:=by
    intro X hP hw hK hc i pins s σ H E I hf st hg
    subst hP hw hK
    obtain⟨xs,x,hq,hx⟩:=hg
    obtain⟨its,rv,p,hz⟩:=I.list hq
    obtain⟨u,hu,ru⟩:=rv.get hx
    obtain⟨f0,f1,f2,f3,f4,f5⟩:=hf it (by simp)
    refine wpAny_pyNext_list_item st p.isList (x:=u) (by simpa using hu) fun h' st' sb=>?_
    have I1:Inv X pins σ H { s with heap:=h' }:=I.turned (t':=s.toks) (fun b o hb e=>(sb.2 b hb).trans e) f0 f1 f3 f4 f5
    obtain⟨o,e,c,d⟩:=id st'
    exact⟨u,rfl,qY (s:={ s with heap:=h' }) e c d (by decide) ⟨x,H,I1,ru,⟨rfl,fun ys hy=>by rw[I.list_inj hy hq];exact hx⟩,st',fun b hb=>(hf b hb).1⟩⟩
  done:=by
    intro X hP hw hK hc i pins s σ H E I hf st hg
    subst hP hw hK
    obtain⟨xs,hq,hx⟩:=hg
    obtain⟨its,rv,p,hz⟩:=I.list hq
    obtain⟨f0,f1,f2,f3,f4,f5⟩:=hf it (by simp)
    have hl:=rv.length
    exact wpAny_pyNext_list_end (I.ok.hd hc) st p.isList (by simp;omega) fun h' eb=>⟨rfl,I.turned (t':=s.toks) (fun b o hb e=>eb b o hb e) f0 f1 f3 f4 f5⟩
  self:=fun _ _ _ _ _ st h=>wpAny_pyIter_listiter st h
theorem kz {P:Program} {w:World} {K:W.Frag} {tg:Expr} (a it:Addr):vp P w K tg (Itt K a) [it] it (fun i h=>h.IsTupleIter it a i) where
  mem:=by simp
  obj:=fun i h st b hb=>by
    have e:b=it:=by simpa using hb
    subst e
    obtain⟨o,e,c,d⟩:=st
    exact⟨o,e,fun v z=>by rw[d] at z;cases z⟩
  keep:=fun i h h' st k=>st.at fun o e=>k it (by simp) o e
  item:=by
    intro X hP hw hK hc i pins s σ H E I hf st hg
    subst hP hw hK
    obtain⟨xs,x,hq,hx⟩:=hg
    obtain⟨its,rv,p,hz⟩:=I.tuple hq
    obtain⟨u,hu,ru⟩:=rv.get hx
    obtain⟨f0,f1,f2,f3,f4,f5⟩:=hf it (by simp)
    refine wpAny_pyNext_tuple_item st (show s.heap.IsTuple a its.toArray from p) (x:=u) (by simpa using hu) fun h' st' sb=>?_
    have I1:Inv X pins σ H { s with heap:=h' }:=I.turned (t':=s.toks) (fun b o hb e=>(sb.2 b hb).trans e) f0 f1 f3 f4 f5
    obtain⟨o,e,c,d⟩:=id st'
    exact⟨u,rfl,qY (s:={ s with heap:=h' }) e c d (by decide) ⟨x,H,I1,ru,⟨rfl,fun ys hy=>by rw[I.tuple_inj hy hq];exact hx⟩,st',fun b hb=>(hf b hb).1⟩⟩
  done:=by
    intro X hP hw hK hc i pins s σ H E I hf st hg
    subst hP hw hK
    obtain⟨xs,hq,hx⟩:=hg
    obtain⟨its,rv,p,hz⟩:=I.tuple hq
    obtain⟨f0,f1,f2,f3,f4,f5⟩:=hf it (by simp)
    have hl:=rv.length
    exact wpAny_pyNext_tuple_end (I.ok.hd hc) st (show s.heap.IsTuple a its.toArray from p) (by simp;omega) fun h' eb=>⟨rfl,I.turned (t':=s.toks) (fun b o hb e=>eb b o hb e) f0 f1 f3 f4 f5⟩
  self:=fun _ _ _ _ _ st h=>wpAny_pyIter_tupleiter st h
theorem kA {P:Program} {w:World} {K:W.Frag} {tg:Expr} (it:Addr) (lo:Int) (n:Nat):vp P w K tg (Itr lo n) [it] it (fun i h=>IsRangeIter h it (lo+(i:Nat) * 1) ((n:Int) - (i:Nat)) 1) where
  mem:=by simp
  obj:=fun i h st b hb=>by
    have e:b=it:=by simpa using hb
    subst e
    exact⟨_,st,fun v z=>by
      have z':Data.fields _=Data.cell v:=z
      cases z'⟩
  keep:=fun i h h' st k=>k it (by simp) _ st
  item:=by
    intro X hP hw hK hc i pins s σ H E I hf st hg
    subst hP hw hK
    obtain⟨f0,f1,f2,f3,f4,f5⟩:=hf it (by simp)
    have W:=Walks.range (prog:=X.prog) (w:=X.w) (I.ok.hd hc) it lo 1 n
    refine W.item i s _ _ hg st fun v h' tk hv st' kk=>?_
    obtain⟨t,rfl⟩:=hv
    have I1:Inv X pins σ H { s with heap:=h',toks:=tk }:=I.turned (fun b o hb e=>kk b o (by simpa using hb) e) f0 f1 f3 f4 f5
    refine⟨_,rfl,qY (s:={ s with heap:=h',toks:=tk }) (n:="range_iterator") st' rfl rfl (by decide) ⟨.int (lo+i),H,I1,⟨t,?_⟩,⟨rfl,rfl⟩,st',fun b hb=>(hf b hb).1⟩⟩
    rw[Int.mul_one]
  done:=by
    intro X hP hw hK hc i pins s σ H E I hf st hg
    subst hP hw hK
    obtain⟨f0,f1,f2,f3,f4,f5⟩:=hf it (by simp)
    exact wpAny_pyNext_range_end (I.ok.hd hc) st (by have:n <= i:=hg;omega) fun h' eb=>⟨rfl,I.turned (t':=s.toks) (fun b o hb e=>eb b o hb e) f0 f1 f3 f4 f5⟩
  self:=fun _ _ _ _ _ st h=>wpAny_pyIter_rangeiter st h
end L2
namespace L2
open PySem PySem.Spec PyProof.Rows
section
variable {X:Cx} {tg:Expr}
def iList (K:W.Frag) (tl:TE):TI:=fun σ H R=>tl σ H fun x H1=>∃ a,x=.ref a/\(∃ xs,SqL K H1 a xs)/\R (Itl K a) H1
def iTup (K:W.Frag) (tl:TE):TI:=fun σ H R=>tl σ H fun x H1=>∃ a,x=.ref a/\(∃ xs,SqT K H1 a xs)/\R (Itt K a) H1
theorem pi_list {l:Expr} {tl:TE} (hl:PE X l tl):PI X tg l (iList X.K tl):=by
  intro pins s σ H R I h
  refine thn (hl pins s σ H _ I h) fun v s1 ⟨x,H1,I1,r1,q1⟩=>?_
  obtain⟨a,e,⟨xs,hq⟩,q⟩:=q1
  subst e
  cases r1
  obtain⟨its,rv,p,hz⟩:=I1.list hq
  refine wpAny_pyIter_list p.isList ?_
  refine⟨s1.heap.objs.size,[s1.heap.objs.size],_,_,H1,rfl,I1.kept (t':=s1.toks) fun b o e=>Heap.get?_push_of_some _ e,mO a _,⟨_,Heap.get?_push_size _ rfl,rfl,rfl⟩,fun b hb=>?_,q⟩
  have e:b=s1.heap.objs.size:=by simpa using hb
  subst e
  exact I1.fpOk (Nat.le_refl _) (I1.hok.fresh (Nat.le_refl _))
theorem pi_tup {l:Expr} {tl:TE} (hl:PE X l tl):PI X tg l (iTup X.K tl):=by
  intro pins s σ H R I h
  refine thn (hl pins s σ H _ I h) fun v s1 ⟨x,H1,I1,r1,q1⟩=>?_
  obtain⟨a,e,⟨xs,hq⟩,q⟩:=q1
  subst e
  cases r1
  obtain⟨its,rv,p,hz⟩:=I1.tuple hq
  refine wpAny_pyIter_tuple (show s1.heap.IsTuple a its.toArray from p) ?_
  refine⟨s1.heap.objs.size,[s1.heap.objs.size],_,_,H1,rfl,I1.kept (t':=s1.toks) fun b o e=>Heap.get?_push_of_some _ e,kz a _,⟨_,Heap.get?_push_size _ rfl,rfl,rfl⟩,fun b hb=>?_,q⟩
  have e:b=s1.heap.objs.size:=by simpa using hb
  subst e
  exact I1.fpOk (Nat.le_refl _) (I1.hok.fresh (Nat.le_refl _))
theorem qd {pins:List (Addr × Obj)} {σ:St} {H:Hp} {s:Shared} {R:It->Hp->Prop} {E:Value->Shared->Prop} {lo hi:Int} {t u v:Tok} {tk:Nat} (I:Inv X pins σ H s) (h1 : -(2 ^ 62) <= lo) (h2:lo < 2 ^ 62) (h3 : -(2 ^ 62) <= hi) (h4:hi < 2 ^ 62)
    (q:R (Itr lo (hi - lo).toNat) H):wpAny (model X.prog X.w) X.A (pyIter (.ref s.heap.objs.size)) (PIE X pins σ tg R) E { s with heap:=s.heap.push { cls:=.type "range",data:=.fields #[.int lo t,.int hi u,.int 1 v] },toks:=tk }:=by
  refine wpAny_pyIter_range (IsRange.new ..) (small_one h1 h2 h3 h4) ?_
  have I1:Inv X pins σ H { s with heap:=s.heap.push { cls:=.type "range",data:=.fields #[.int lo t,.int hi u,.int 1 v] },toks:=tk }:=I.kept fun b o e=>Heap.get?_push_of_some _ e
  refine⟨(s.heap.push { cls:=.type "range",data:=.fields #[.int lo t,.int hi u,.int 1 v] }).objs.size,[(s.heap.push { cls:=.type "range",data:=.fields #[.int lo t,.int hi u,.int 1 v] }).objs.size],_,_,H,rfl,
    I1.kept (t':=tk) fun b o e=>Heap.get?_push_of_some _ e,kA _ lo (hi - lo).toNat,?_,fun b hb=>?_,q⟩
  · have e1:lo+((0:Nat):Int) * 1=lo:=by simp
    have e2:(((hi - lo).toNat:Nat):Int) - ((0:Nat):Int)=Builtin.Range.rangeSize lo hi 1:=by rw[rangeSize_one];split <;> omega
    show IsRangeIter _ _ (lo+((0:Nat):Int) * 1) ((((hi - lo).toNat:Nat):Int) - ((0:Nat):Int)) 1
    rw[e1,e2]
    exact Heap.get?_push_size _ rfl
  · have e:b=(s.heap.push { cls:=.type "range",data:=.fields #[.int lo t,.int hi u,.int 1 v] }).objs.size:=by simpa using hb
    subst e
    exact I1.fpOk (Nat.le_refl _) (I1.hok.fresh (Nat.le_refl _))
def iRng1 (ta:TA):TI:=fun σ H R=>ta σ H fun vs H1=>∃ j:Int,vs=[.int j]/\-(2 ^ 62) <= j/\j < 2 ^ 62/\R (Itr 0 j.toNat) H1
theorem pi_range1 {a:Expr} {ta:TA} {p pos:Pos} (hg:Gl X "range") (hm:X.mg "range" = none) (ha:PA X [a] ta) (hs:starEach [a] X.env=[(false,eval a X.env)]:=by rfl):PI X tg (.Call (.Name "range" p) [a] [] pos) (iRng1 ta):=by
  intro pins s σ H R I h
  refine Call_ (dg I hg hm boot_range (PyProof.Rows.callWith_type1 (thn (ha pos pins s σ H _ I h) fun us s1 ⟨vs,H1,I1,r1,q1⟩=>?_) hs rfl))
  obtain⟨j,e,q1,q2,q⟩:=q1
  subst e
  cases r1 with
  | cons r rr=>
    cases rr
    obtain⟨t,rfl⟩:=r
    exact call_range_1 (qd I1 (by omega) (by omega) q1 q2 (by simpa using q))
def tFor (wi:TI) (g:TG) (tb:TS):TS:=fun D σ H=>wi σ H fun J H1=>∃ W:Nat->Nat->St->Hp->Prop,(∃ m,W 0 m σ H1)/\∀ i m σ H,W i m σ H ->
  (J.stop i H/\D.nx σ H)\/(J.go i H/\∃ N:St->Hp->Prop,(∀ σ' H',N σ' H'->∃ m',m' < m/\W (i+1) m' σ' H')/\∀ x H',J.yld i H x H'->g x σ H' fun σ2 H2=>tb { D with nx:=N,ct:=N,bk:=D.nx } σ2 H2)
noncomputable def eX (fp:List Addr) (h:Heap):List (Addr × Obj):=fp.filterMap fun b=>(h.get? b).map fun o=>(b,o)
theorem bN {fp:List Addr} {h:Heap} {b:Addr} {o:Obj} (hb:b ∈ fp) (e:h.get? b=some o):(b,o) ∈ eX fp h:=List.mem_filterMap.mpr ⟨b,hb,by rw[e];rfl⟩
theorem oj {fp:List Addr} {h:Heap} {p:Addr × Obj} (hp:p ∈ eX fp h):p.1 ∈ fp/\h.get? p.1=some p.2:=by
  obtain⟨b,hb,e⟩:=List.mem_filterMap.mp hp
  cases q:h.get? b with
  | none=>rw[q] at e;cases e
  | some o=>
    rw[q] at e
    have e':(b,o)=p:=Option.some.inj e
    subst e'
    exact⟨hb,q⟩
theorem Inv.pinned {pins:List (Addr × Obj)} {σ:St} {H:Hp} {s:Shared} {fp:List Addr} (I:Inv X pins σ H s) (hf:∀ b ∈ fp,mE X pins H b) (ho:∀ b ∈ fp,∃ o,s.heap.get? b=some o/\∀ v,o.data ≠ .cell v):Inv X (pins++eX fp s.heap) σ H s:=
  I.pins_of fun p hp=>(List.mem_append.mp hp).elim (fun z=>I.pin p (List.mem_append_right _ z)) fun z=>by
    obtain⟨hb,e⟩:=oj z
    obtain⟨f0,f1,f2,_⟩:=hf p.1 hb
    obtain⟨o,e',d⟩:=ho p.1 hb
    rw[e] at e';cases e'
    exact⟨e,f0,f1,f2,d⟩
theorem Inv.unpinned {pins pl:List (Addr × Obj)} {σ:St} {H:Hp} {s:Shared} (I:Inv X (pins++pl) σ H s):Inv X pins σ H s:=I.pins_of fun p hp=>I.pin p (List.mem_append_right _ (List.mem_append_left _ hp))
theorem ps_for {iter:Expr} {body:List Stmt} {wi:TI} {g:TG} {tb:TS} {pos:Pos} (hp:PassesOwn (model X.prog X.w) X.A X.env X.xe) (hc:X.calm=true) (hi:PI X tg iter wi) (hg:PG X tg g) (hb:PSs X body tb)
    (hs:∀ x,foldedSetIterable iter X.env x=pure x:=by intro _;rfl):PS X (.For tg iter body [] pos) (tFor wi g tb):=by
  intro pins s σ H D I h
  refine wpAny_For (thn (hi pins s σ H _ I h) fun v s1 h1=>thn h1 fun itv s2 h2=>?_) hs
  obtain⟨it,fp,tn,J,H2,e,I2,T,st2,f2,W,⟨m0,w0⟩,turn⟩:=h2
  subst e
  have stat:∀ {H':Hp},(∀ b ∈ fp,H' b=none)->∀ b ∈ fp,mE X pins H' b:=fun hn b hb=>⟨hn b hb,(f2 b hb).2⟩
  refine codeAny_forLoop_any (fun n s'=>∃ i σ' H',Inv X pins σ' H' s'/\tn i s'.heap/\(∀ b ∈ fp,H' b=none)/\W i n σ' H') ?_ m0 ⟨0,σ,H2,I2,st2,fun b hb=>(f2 b hb).1,w0⟩
  rintro n s3 ⟨i,σ3,H3,I3,st3,fr3,w3⟩
  rcases turn i n σ3 H3 w3 with ⟨stop,qn⟩ | ⟨go,N,hN,step⟩
  · refine wpAny_passesOwn hp (thn (T.done X rfl rfl rfl hc i pins s3 σ3 H3 X.xe I3 (stat fr3) st3 stop) fun r s4 ⟨hr,I4⟩=>?_)
    subst hr
    exact wpAny_execs_nil ⟨σ3,H3,I4,qn⟩
  · refine wpAny_passesOwn hp (thn (T.item X rfl rfl rfl hc i pins s3 σ3 H3 X.xe I3 (stat fr3) st3 go) fun r s4 ⟨u,hr,h4⟩=>?_)
    subst hr
    refine wpAny_passesOwn hp (thn h4 fun _ s5 ⟨x,H5,I5,r5,y5,st5,fr5⟩=>?_)
    have I5':=I5.pinned (stat fr5) (T.obj _ _ st5)
    refine wpAny_passesOwn hp (thn (hg _ s5 σ3 H5 x u _ I5' r5 (step x H5 y5)) fun _ s6 ⟨σ6,H6,I6,q6⟩=>?_)
    refine wpAny_passesOwn hp (thn (hb _ s6 σ6 H6 _ I6 q6) fun f s7 q7=>?_)
    have again:∀ {σ7:St} {H7:Hp},Inv X (pins++eX fp s5.heap) σ7 H7 s7->N σ7 H7->∃ m,m < n/\∃ i σ' H',Inv X pins σ' H' s7/\tn i s7.heap/\(∀ b ∈ fp,H' b=none)/\W i m σ' H':=fun {σ7 H7} I7 n7=>by
      obtain⟨m',hm,w7⟩:=hN σ7 H7 n7
      refine⟨m',hm,i+1,σ7,H7,I7.unpinned,T.keep _ _ _ st5 fun b hb o e=>(I7.pin (b,o) (List.mem_append_right _ (List.mem_append_right _ (bN hb e)))).1,fun b hb=>?_,w7⟩
      obtain⟨o,e,d⟩:=T.obj _ _ st5 b hb
      exact (I7.pin (b,o) (List.mem_append_right _ (List.mem_append_right _ (bN hb e)))).2.1
    cases f with
    | next=>obtain⟨σ7,H7,I7,n7⟩:=q7;exact again I7 n7
    | cont=>obtain⟨σ7,H7,I7,n7⟩:=q7;exact again I7 n7
    | brk=>obtain⟨σ7,H7,I7,q7⟩:=q7;exact⟨σ7,H7,I7.unpinned,q7⟩
    | ret v=>obtain⟨x7,σ7,H7,I7,r7,q7⟩:=q7;exact⟨x7,σ7,H7,I7.unpinned,r7,q7⟩
end
theorem cq {K:W.Frag} {a:Addr} {xs:List V} {g:TG} {tb:TS} {D:hX} {σ:St} {H:Hp} (Pv:Nat->St->Hp->Prop) (h0:Pv 0 σ H) (hl:∀ i σ H,i <= xs.length->Pv i σ H->SqL K H a xs)
    (hs:∀ i x σ H,xs[i]?=some x->Pv i σ H->g x σ H fun σ2 H2=>tb { D with nx:=Pv (i+1),ct:=Pv (i+1),bk:=D.nx } σ2 H2) (hd:∀ σ H,Pv xs.length σ H->D.nx σ H) :
    ∃ W:Nat->Nat->St->Hp->Prop,(∃ m,W 0 m σ H)/\∀ i m σ H,W i m σ H ->
      ((Itl K a).stop i H/\D.nx σ H)\/((Itl K a).go i H/\∃ N:St->Hp->Prop,(∀ σ' H',N σ' H'->∃ m',m' < m/\W (i+1) m' σ' H')/\∀ x H',(Itl K a).yld i H x H'->g x σ H' fun σ2 H2=>tb { D with nx:=N,ct:=N,bk:=D.nx } σ2 H2):=by
  refine⟨fun i m σ H=>m=xs.length - i/\i <= xs.length/\Pv i σ H,⟨xs.length,by simp,Nat.zero_le _,h0⟩,?_⟩
  rintro i m σ H ⟨rfl,hi,p⟩
  have q:=hl i σ H hi p
  by_cases hlt:i < xs.length
  · refine .inr ⟨⟨xs,xs[i],q,by simp[hlt]⟩,Pv (i+1),fun σ' H' p'=>⟨xs.length - (i+1),by omega,rfl,hlt,p'⟩,fun x H' y=>?_⟩
    obtain⟨e,y⟩:=y
    subst e
    exact hs i x σ _ (y xs q) p
  · have e:i=xs.length:=by omega
    subst e
    exact .inl ⟨⟨xs,q,Nat.le_refl _⟩,hd σ H p⟩
theorem di {K:W.Frag} {a:Addr} {xs:List V} {g:TG} {tb:TS} {D:hX} {σ:St} {H:Hp} (Pv:Nat->St->Hp->Prop) (h0:Pv 0 σ H) (hl:∀ i σ H,i <= xs.length->Pv i σ H->SqT K H a xs)
    (hs:∀ i x σ H,xs[i]?=some x->Pv i σ H->g x σ H fun σ2 H2=>tb { D with nx:=Pv (i+1),ct:=Pv (i+1),bk:=D.nx } σ2 H2) (hd:∀ σ H,Pv xs.length σ H->D.nx σ H) :
    ∃ W:Nat->Nat->St->Hp->Prop,(∃ m,W 0 m σ H)/\∀ i m σ H,W i m σ H ->
      ((Itt K a).stop i H/\D.nx σ H)\/((Itt K a).go i H/\∃ N:St->Hp->Prop,(∀ σ' H',N σ' H'->∃ m',m' < m/\W (i+1) m' σ' H')/\∀ x H',(Itt K a).yld i H x H'->g x σ H' fun σ2 H2=>tb { D with nx:=N,ct:=N,bk:=D.nx } σ2 H2):=by
  refine⟨fun i m σ H=>m=xs.length - i/\i <= xs.length/\Pv i σ H,⟨xs.length,by simp,Nat.zero_le _,h0⟩,?_⟩
  rintro i m σ H ⟨rfl,hi,p⟩
  have q:=hl i σ H hi p
  by_cases hlt:i < xs.length
  · refine .inr ⟨⟨xs,xs[i],q,by simp[hlt]⟩,Pv (i+1),fun σ' H' p'=>⟨xs.length - (i+1),by omega,rfl,hlt,p'⟩,fun x H' y=>?_⟩
    obtain⟨e,y⟩:=y
    subst e
    exact hs i x σ _ (y xs q) p
  · have e:i=xs.length:=by omega
    subst e
    exact .inl ⟨⟨xs,q,Nat.le_refl _⟩,hd σ H p⟩
theorem cQ {lo:Int} {n:Nat} {g:TG} {tb:TS} {D:hX} {σ:St} {H:Hp} (Pv:Nat->St->Hp->Prop) (h0:Pv 0 σ H)
    (hs:∀ i σ H,i < n->Pv i σ H->g (.int (lo+i)) σ H fun σ2 H2=>tb { D with nx:=Pv (i+1),ct:=Pv (i+1),bk:=D.nx } σ2 H2) (hd:∀ σ H,Pv n σ H->D.nx σ H) :
    ∃ W:Nat->Nat->St->Hp->Prop,(∃ m,W 0 m σ H)/\∀ i m σ H,W i m σ H ->
      ((Itr lo n).stop i H/\D.nx σ H)\/((Itr lo n).go i H/\∃ N:St->Hp->Prop,(∀ σ' H',N σ' H'->∃ m',m' < m/\W (i+1) m' σ' H')/\∀ x H',(Itr lo n).yld i H x H'->g x σ H' fun σ2 H2=>tb { D with nx:=N,ct:=N,bk:=D.nx } σ2 H2):=by
  refine⟨fun i m σ H=>m=n - i/\i <= n/\Pv i σ H,⟨n,by simp,Nat.zero_le _,h0⟩,?_⟩
  rintro i m σ H ⟨rfl,hi,p⟩
  by_cases hlt:i < n
  · refine .inr ⟨hlt,Pv (i+1),fun σ' H' p'=>⟨n - (i+1),by omega,rfl,hlt,p'⟩,fun x H' y=>?_⟩
    obtain⟨e,y⟩:=y
    subst e y
    exact hs i σ _ hlt p
  · have e:i=n:=by omega
    subst e
    exact .inl ⟨Nat.le_refl _,hd σ H p⟩
end L2
namespace L2
open PySem PySem.Spec PyProof.Rows
abbrev R2:=V->V->Hp->VK->Prop
def OpR (X:Cx) (f:Value->Value->Sem Value) (r:R2):Prop:=
  ∀ (pins:List (Addr × Obj)) (s:Shared) (σ:St) (H:Hp) (x y:V) (v u:Value) (Q:VK),Inv X pins σ H s->RelV x v->RelV y u->r x y H Q ->
    wpAny (model X.prog X.w) X.A (f v u) (EP X pins σ Q) X.xe s
def UnR (X:Cx) (f:Value->Sem Value) (r:V->Hp->VK->Prop):Prop:=
  ∀ (pins:List (Addr × Obj)) (s:Shared) (σ:St) (H:Hp) (x:V) (v:Value) (Q:VK),Inv X pins σ H s->RelV x v->r x H Q ->
    wpAny (model X.prog X.w) X.A (f v) (EP X pins σ Q) X.xe s
def CallR (X:Cx) (f:Value) (r:List V->Hp->VK->Prop):Prop:=
  ∀ (pins:List (Addr × Obj)) (s:Shared) (σ:St) (H:Hp) (xs:List V) (us:List Value) (Q:VK),Inv X pins σ H s->Vals xs us->r xs H Q ->
    wpAny (model X.prog X.w) X.A (call f us) (EP X pins σ Q) X.xe s
def tOp (r:R2) (ta tb:TE):TE:=fun σ H Q=>ta σ H fun x H1=>tb σ H1 fun y H2=>r x y H2 Q
def tUn (r:V->Hp->VK->Prop) (ta:TE):TE:=fun σ H Q=>ta σ H fun x H1=>r x H1 Q
noncomputable def rI (C:Int->Int->Prop) (g:Int->Int->V):R2:=fun x y H Q=>∃ i j,x=.int i/\y=.int j/\C i j/\Q (g i j) H
noncomputable def rI0 (g:Int->Int->V):R2:=fun x y H Q=>∃ i j,x=.int i/\y=.int j/\Q (g i j) H
def rU (g:Int->V):V->Hp->VK->Prop:=fun x H Q=>∃ i,x=.int i/\Q (g i) H
section
variable {X:Cx} {a b c:Expr} {ta tb tc:TE} {pos:Pos}
theorem ye (ha:PE X a ta) (hb:PE X b tb) {pins:List (Addr × Obj)} {s:Shared} {σ:St} {H:Hp} {R:V->V->Hp->Prop} (I:Inv X pins σ H s)
    (h:ta σ H fun x H1=>tb σ H1 fun y H2=>R x y H2) {Q:Value->Shared->Prop} {f:Value->Value->Sem Value}
    (hf:∀ v u s2 x y H2,Inv X pins σ H2 s2->RelV x v->RelV y u->R x y H2->wpAny (model X.prog X.w) X.A (f v u) Q X.xe s2) :
    wpAny (model X.prog X.w) X.A (eval a X.env) (fun v s₁=>wpAny (model X.prog X.w) X.A (eval b X.env) (fun u s₂=>wpAny (model X.prog X.w) X.A (f v u) Q X.xe s₂) X.xe s₁) X.xe s:=by
  refine thn (ha pins s σ H _ I h) fun v s1 ⟨x,H1,I1,r1,q1⟩=>?_
  refine thn (hb pins s1 σ H1 _ I1 q1) fun u s2 ⟨y,H2,I2,r2,q2⟩=>?_
  exact hf v u s2 x y H2 I2 r1 r2 q2
theorem pe_op {op:Operator} {r:R2} (ho:OpR X (binaryOp op) r) (ha:PE X a ta) (hb:PE X b tb):PE X (.BinOp a op b pos) (tOp r ta tb):=by
  intro pins s σ H Q I h
  exact wpAny_BinOp (ye ha hb I h fun v u s2 x y H2 I2 rx ry q=>ho pins s2 σ H2 x y v u Q I2 rx ry q)
theorem pe_un {op:UnaryOp} {r:V->Hp->VK->Prop} (ho:UnR X (unaryOp op) r) (ha:PE X a ta):PE X (.UnaryOp op a pos) (tUn r ta):=by
  intro pins s σ H Q I h
  exact UnaryOp_ (thn (ha pins s σ H _ I h) fun v s1 ⟨x,H1,I1,r1,q1⟩=>ho pins s1 σ H1 x v Q I1 r1 q1)
theorem opI {f:Value->Value->Sem Value} {C:Int->Int->Prop} {g:Int->Int->Int}
    (rule:∀ (i j:Int) (t u:Tok) (s:Shared) (Q:Value->Shared->Prop) (E:Value->Shared->Prop),C i j->Q (.int (g i j) s.toks) { s with toks:=s.toks+1 }->wpAny (model X.prog X.w) X.A (f (.int i t) (.int j u)) Q E s) :
    OpR X f (rI C fun i j=>.int (g i j)):=by
  intro pins s σ H x y v u Q I rx ry h
  obtain⟨i,j,rfl,rfl,hc,q⟩:=h
  obtain⟨t,rfl⟩:=rx
  obtain⟨t',rfl⟩:=ry
  exact rule i j t t' s _ _ hc ⟨.int (g i j),H,I.tok _,⟨_,rfl⟩,q⟩
theorem yw {f:Value->Value->Sem Value} {g:Int->Int->Int}
    (rule:∀ (i j:Int) (t u:Tok) (s:Shared) (Q:Value->Shared->Prop) (E:Value->Shared->Prop),Q (.int (g i j) s.toks) { s with toks:=s.toks+1 }->wpAny (model X.prog X.w) X.A (f (.int i t) (.int j u)) Q E s) :
    OpR X f (rI0 fun i j=>.int (g i j)):=by
  intro pins s σ H x y v u Q I rx ry h
  obtain⟨i,j,rfl,rfl,q⟩:=h
  obtain⟨t,rfl⟩:=rx
  obtain⟨t',rfl⟩:=ry
  exact rule i j t t' s _ _ ⟨.int (g i j),H,I.tok _,⟨_,rfl⟩,q⟩
theorem xX {f:Value->Value->Sem Value} {g:Int->Int->Bool}
    (rule:∀ (i j:Int) (t u:Tok) (s:Shared) (Q:Value->Shared->Prop) (E:Value->Shared->Prop),Q (.bool (g i j)) s->wpAny (model X.prog X.w) X.A (f (.int i t) (.int j u)) Q E s) :
    OpR X f (rI0 fun i j=>.bl (g i j)):=by
  intro pins s σ H x y v u Q I rx ry h
  obtain⟨i,j,rfl,rfl,q⟩:=h
  obtain⟨t,rfl⟩:=rx
  obtain⟨t',rfl⟩:=ry
  exact rule i j t t' s _ _ ⟨.bl (g i j),H,I,rfl,q⟩
def zb (i j:Int):Prop:=0 < j/\j < 1073741824
def za (i j:Int):Prop:=0 <= j/\j <= 1000000/\i.natAbs < 2 ^ 64
def CMul (i j:Int):Prop:=(-(2 ^ 64) < i/\i < 2 ^ 64)\/(-(2 ^ 64) < j/\j < 2 ^ 64)
theorem CMul.ok {i j:Int} (h:CMul i j):IntMulOk i j:=by
  rcases h with ⟨h1,h2⟩ | ⟨h1,h2⟩
  · exact .of_left (intBits_le_64 h1 h2)
  · exact .of_right (intBits_le_64 h1 h2)
theorem bw:OpR X (binaryOp .Add) (rI0 fun i j=>.int (i+j)):=yw fun _ _ _ _ _ _ _ q=>add_int q
theorem cx:OpR X (binaryOp .Sub) (rI0 fun i j=>.int (i - j)):=yw fun _ _ _ _ _ _ _ q=>sub_int q
theorem df:OpR X (binaryOp .Mult) (rI CMul fun i j=>.int (i * j)):=opI fun _ _ _ _ _ _ _ hc q=>mul_int q hc.ok
theorem aO:OpR X (binaryOp .FloorDiv) (rI zb fun i j=>.int (i / j)):=opI fun i j _ _ _ _ _ hc q=>by
  have h1:(0:Int) < j:=hc.1
  have h2:j < 1073741824:=hc.2
  exact floordiv_int (by omega) (by rw[Int.fdiv_eq_ediv_of_nonneg i (by omega)];exact q) (.inl (PyProof.noPylong_small (by omega)))
theorem aM:OpR X (binaryOp .Mod) (rI (fun _ j=>0 < j) fun i j=>.int (i % j)):=opI fun i j _ _ _ _ _ hc q=>by
  have h1:(0:Int) < j:=hc
  exact mod_int' (by omega) (by rw[Int.fmod_eq_emod_of_nonneg i (by omega)];exact q)
theorem iq:OpR X (binaryOp .Pow) (rI za fun i j=>.int (i ^ j.toNat)):=opI fun _ _ _ _ _ _ _ hc q=>pow_int_small hc.1 hc.2.1 hc.2.2 q
theorem unI {f:Value->Sem Value} {g:Int->Int}
    (rule:∀ (i:Int) (t:Tok) (s:Shared) (Q:Value->Shared->Prop) (E:Value->Shared->Prop),Q (.int (g i) s.toks) { s with toks:=s.toks+1 }->wpAny (model X.prog X.w) X.A (f (.int i t)) Q E s) :
    UnR X f (rU fun i=>.int (g i)):=by
  intro pins s σ H x v Q I rx h
  obtain⟨i,rfl,q⟩:=h
  obtain⟨t,rfl⟩:=rx
  exact rule i t s _ _ ⟨.int (g i),H,I.tok _,⟨_,rfl⟩,q⟩
theorem jI:UnR X (unaryOp .USub) (rU fun i=>.int (-i)):=unI fun _ _ _ _ _ q=>neg_int q
end
noncomputable def yn:V->V->Bool
  | .non,.non=>true | .non,.int _=>true | .int _,.non=>true | .non,.bl _=>true | .bl _,.non=>true | .non,.str _=>true | .str _,.non=>true
  | .int _,.int _=>true | .bl _,.bl _=>true | .str _,.str _=>true | .byt _,.byt _=>true
  | .int _,.str _=>true | .str _,.int _=>true | .bl _,.str _=>true | .str _,.bl _=>true
  | _,_=>false
noncomputable def rEq:R2:=fun x y H Q=>yn x y=true/\Q (.bl (decide (x=y))) H
noncomputable def rNe:R2:=fun x y H Q=>yn x y=true/\Q (.bl (!decide (x=y))) H
theorem pz {i j:Int}:decide (V.int i=V.int j)=(i == j):=by
  rw[Bool.eq_iff_iff]
  simp
theorem sE {i j:Bool}:decide (V.bl i=V.bl j)=(i == j):=by
  rw[Bool.eq_iff_iff]
  simp
theorem pw {i j:Str}:decide (V.str i=V.str j)=(i == j):=by
  rw[Bool.eq_iff_iff]
  simp
theorem pA {i j:Array UInt8}:decide (V.byt i=V.byt j)=(i.toList == j.toList):=by
  rw[Bool.eq_iff_iff]
  cases i
  cases j
  simp
section
variable {X:Cx} {a b c:Expr} {ta tb tc:TE} {pos:Pos}
theorem bd {pins:List (Addr × Obj)} {σ:St} {H:Hp} {s:Shared} {Q:VK} {k k':Bool} (I:Inv X pins σ H s) (q:Q (.bl k) H) (e:k=k'):EP X pins σ Q (.bool k') s:=by
  subst e
  exact⟨.bl k,H,I,rfl,q⟩
theorem bL:OpR X (compareOp .Eq) rEq:=by
  intro pins s σ H x y v u Q I rx ry h
  obtain⟨hs,q⟩:=h
  cases x with
  | non=>
    cases rx
    cases y with
    | non=>cases ry;exact PySem.EqNone.eq_none_none (bd I q (by simp))
    | bl j=>cases ry;exact PySem.EqNone.eq_none_bool (bd I q (by simp))
    | int j=>obtain⟨t',rfl⟩:=ry;exact PySem.EqNone.eq_none_int (bd I q (by simp))
    | str j=>obtain⟨t',rfl⟩:=ry;exact PySem.EqNone.eq_none_str (bd I q (by simp))
    | _=>exact absurd (show false=true from hs) Bool.false_ne_true
  | bl i=>
    cases rx
    cases y with
    | non=>cases ry;exact PySem.EqNone.eq_bool_none (bd I q (by simp))
    | bl j=>cases ry;exact eq_bool (bd I q sE)
    | str j=>obtain⟨t',rfl⟩:=ry;exact PySem.EqMixed.eq_bool_str (bd I q (by simp))
    | _=>exact absurd (show false=true from hs) Bool.false_ne_true
  | int i=>
    obtain⟨t,rfl⟩:=rx
    cases y with
    | non=>cases ry;exact PySem.EqNone.eq_int_none (bd I q (by simp))
    | int j=>obtain⟨t',rfl⟩:=ry;exact eq_int (bd I q pz)
    | str j=>obtain⟨t',rfl⟩:=ry;exact PySem.EqMixed.eq_int_str (bd I q (by simp))
    | _=>exact absurd (show false=true from hs) Bool.false_ne_true
  | str i=>
    obtain⟨t,rfl⟩:=rx
    cases y with
    | non=>cases ry;exact PySem.EqNone.eq_str_none (bd I q (by simp))
    | bl j=>cases ry;exact PySem.EqMixed.eq_str_bool (bd I q (by simp))
    | int j=>obtain⟨t',rfl⟩:=ry;exact PySem.EqMixed.eq_str_int (bd I q (by simp))
    | str j=>obtain⟨t',rfl⟩:=ry;exact eq_str (bd I q pw)
    | _=>exact absurd (show false=true from hs) Bool.false_ne_true
  | byt i=>
    obtain⟨t,rfl⟩:=rx
    cases y with
    | byt j=>obtain⟨t',rfl⟩:=ry;exact PySem.W.eq_bytes (bd I q pA)
    | _=>exact absurd (show false=true from hs) Bool.false_ne_true
  | _=>cases y <;> exact absurd (show false=true from hs) Bool.false_ne_true
theorem qx:OpR X (compareOp .NotEq) rNe:=by
  intro pins s σ H x y v u Q I rx ry h
  obtain⟨hs,q⟩:=h
  cases x with
  | non=>
    cases rx
    cases y with
    | non=>cases ry;exact PySem.EqNone.ne_none_none (bd I q (by simp))
    | bl j=>cases ry;exact PySem.EqNone.ne_none_bool (bd I q (by simp))
    | int j=>obtain⟨t',rfl⟩:=ry;exact PySem.EqNone.ne_none_int (bd I q (by simp))
    | str j=>obtain⟨t',rfl⟩:=ry;exact PySem.EqNone.ne_none_str (bd I q (by simp))
    | _=>exact absurd (show false=true from hs) Bool.false_ne_true
  | bl i=>
    cases rx
    cases y with
    | non=>cases ry;exact PySem.EqNone.ne_bool_none (bd I q (by simp))
    | bl j=>cases ry;exact ne_bool (bd I q (congrArg not sE))
    | str j=>obtain⟨t',rfl⟩:=ry;exact PySem.EqMixed.ne_bool_str (bd I q (by simp))
    | _=>exact absurd (show false=true from hs) Bool.false_ne_true
  | int i=>
    obtain⟨t,rfl⟩:=rx
    cases y with
    | non=>cases ry;exact PySem.EqNone.ne_int_none (bd I q (by simp))
    | int j=>obtain⟨t',rfl⟩:=ry;exact ne_int (bd I q (congrArg not pz))
    | str j=>obtain⟨t',rfl⟩:=ry;exact PySem.EqMixed.ne_int_str (bd I q (by simp))
    | _=>exact absurd (show false=true from hs) Bool.false_ne_true
  | str i=>
    obtain⟨t,rfl⟩:=rx
    cases y with
    | non=>cases ry;exact PySem.EqNone.ne_str_none (bd I q (by simp))
    | bl j=>cases ry;exact PySem.EqMixed.ne_str_bool (bd I q (by simp))
    | int j=>obtain⟨t',rfl⟩:=ry;exact PySem.EqMixed.ne_str_int (bd I q (by simp))
    | str j=>obtain⟨t',rfl⟩:=ry;exact ne_str (bd I q (congrArg not pw))
    | _=>exact absurd (show false=true from hs) Bool.false_ne_true
  | byt i=>
    obtain⟨t,rfl⟩:=rx
    cases y with
    | byt j=>obtain⟨t',rfl⟩:=ry;exact PySem.W.ne_bytes (bd I q (congrArg not pA))
    | _=>exact absurd (show false=true from hs) Bool.false_ne_true
  | _=>cases y <;> exact absurd (show false=true from hs) Bool.false_ne_true
theorem qz:OpR X (compareOp .Lt) (rI0 fun i j=>.bl (decide (i < j))):=xX fun _ _ _ _ _ _ _ q=>lt_int q
theorem wM:OpR X (compareOp .LtE) (rI0 fun i j=>.bl (decide (i <= j))):=xX fun _ _ _ _ _ _ _ q=>le_int q
theorem xW:OpR X (compareOp .Gt) (rI0 fun i j=>.bl (decide (j < i))):=xX fun _ _ _ _ _ _ _ q=>gt_int q
theorem aP (b:Expr) {op:CmpOp} (h:op ≠ .In:=by decide) (h2:op ≠ .NotIn:=by decide):behindInMarks op b=false:=by
  have e1:(op == CmpOp.In)=false:=by cases op <;> first | rfl | exact absurd rfl h
  have e2:(op == CmpOp.NotIn)=false:=by cases op <;> first | rfl | exact absurd rfl h2
  cases b <;> simp[behindInMarks,e1,e2]
theorem pe_cmpR {op:CmpOp} {r:R2} (ho:OpR X (compareOp op) r) (ha:PE X a ta) (hb:PE X b tb) (hm:behindInMarks op b=false):PE X (.Compare a [op] [b] pos) (tOp r ta tb):=by
  intro pins s σ H Q I h
  exact wpAny_Compare1 (ye ha hb I h fun v u s2 x y H2 I2 rx ry q=>ho pins s2 σ H2 x y v u Q I2 rx ry q) hm
def tTest (t:TE):TT:=fun σ H Q=>t σ H fun x H'=>∃ k,x=.bl k/\Q k H'
theorem pt_cmpR {op:CmpOp} {r:R2} (ho:OpR X (compareOp op) r) (ha:PE X a ta) (hb:PE X b tb) (hm:behindInMarks op b=false):PT X (.Compare a [op] [b] pos) (tTest (tOp r ta tb)):=by
  intro pins s σ H Q I h
  refine wpAny_isTrue_Compare1 (thn (ha pins s σ H _ I h) fun v s1 ⟨x,H1,I1,r1,q1⟩=>thn (hb pins s1 σ H1 _ I1 q1) fun u s2 ⟨y,H2,I2,r2,q2⟩=>
    thn (ho pins s2 σ H2 x y v u _ I2 r1 r2 q2) fun c s3 ⟨z,H3,I3,r3,k,e,q3⟩=>?_) hm
  subst e
  cases r3
  exact wpAny_truthy_bool ⟨H3,I3,q3⟩
def tChain (r r':R2) (ta tb tc:TE):TE:=fun σ H Q=>ta σ H fun x H1=>tb σ H1 fun y H2=>r x y H2 fun z H3=>∃ k,z=.bl k /\
  (if k=true then tc σ H3 fun w' H4=>r' y w' H4 Q else Q (.bl false) H3)
theorem pt_chain {op op':CmpOp} {r r':R2} (ho:OpR X (compareOp op) r) (ho':OpR X (compareOp op') r') (ha:PE X a ta) (hb:PE X b tb) (hc:PE X c tc)
    (hm:lastMarks [op,op'] [b,c]=false:=by with_unfolding_all rfl):PT X (.Compare a [op,op'] [b,c] pos) (tTest (tChain r r' ta tb tc)):=by
  intro pins s σ H Q I h
  refine isTrue_chain (thn (ha pins s σ H _ I h) fun v s1 ⟨x,H1,I1,r1,q1⟩=>test_link (thn (hb pins s1 σ H1 _ I1 q1) fun u s2 ⟨y,H2,I2,r2,q2⟩=>
    thn (ho pins s2 σ H2 x y v u _ I2 r1 r2 q2) fun d s3 ⟨z,H3,I3,r3,k,e,q3⟩=>?_)) hm
  subst e
  cases r3
  refine wpAny_truthy_bool ?_
  cases k with
  | false=>
    obtain⟨k',e',q'⟩:=q3
    cases e'
    exact ite_ff ⟨H3,I3,q'⟩
  | true=>
    refine ite_tt (test_last (thn (hc pins s3 σ H3 _ I3 q3) fun w' s4 ⟨z',H4,I4,r4,q4⟩=>thn (ho' pins s4 σ H4 y z' u w' _ I4 r2 r4 q4) fun d' s5 ⟨z2,H5,I5,r5,k2,e2,q5⟩=>?_))
    subst e2
    cases r5
    exact wpAny_truthy_bool ⟨H5,I5,q5⟩
theorem fZ:(sizeLine:Nat) < 2 ^ 63:=by rw[sizeLine_eq];decide
theorem eD:OpR X (binaryOp .Add) (fun x y H Q=>∃ i j,x=.str i/\y=.str j/\i.length+j.length <= sizeLine/\Q (.str (i++j)) H):=by
  intro pins s σ H x y v u Q I rx ry h
  obtain⟨i,j,rfl,rfl,hz,q⟩:=h
  obtain⟨t,rfl⟩:=rx
  obtain⟨t',rfl⟩:=ry
  exact add_str (fun t' tk=>⟨.str (i++j),H,I.tok _,⟨_,rfl⟩,q⟩) hz
theorem ky {x:V} {us:List Value} (r:Vals [x] us):∃ u,us=[u]/\RelV x u:=by
  cases r with
  | cons r1 r2=>cases r2;exact⟨_,rfl,r1⟩
theorem sQ {x y:V} {us:List Value} (r:Vals [x,y] us):∃ u w',us=[u,w']/\RelV x u/\RelV y w':=by
  cases r with
  | cons r1 r2=>
    cases r2 with
    | cons r3 r4=>cases r4;exact⟨_,_,rfl,r1,r3⟩
theorem pI (hc:X.calm=true):CallR X (.builtin "min") (fun xs H Q=>∃ i j,xs=[.int i,.int j]/\Q (.int (if j < i then j else i)) H):=by
  intro pins s σ H xs us Q I r h
  obtain⟨i,j,rfl,q⟩:=h
  obtain⟨u,w',rfl,⟨t,rfl⟩,⟨t',rfl⟩⟩:=sQ r
  refine min_two_ints (I.ok.hd hc) fun h' tk k=>⟨_,H,I.kept k,?_,q⟩
  by_cases hj:j < i
  · rw[if_pos hj,if_pos hj];exact⟨_,rfl⟩
  · rw[if_neg hj,if_neg hj];exact⟨_,rfl⟩
theorem iM:CallR X (.type "int") (fun xs H Q=>(∃ i,xs=[.int i]/\Q (.int i) H)\/∃ k,xs=[.bl k]/\Q (.int (if k then 1 else 0)) H):=by
  intro pins s σ H xs us Q I r h
  rcases h with ⟨i,rfl,q⟩ | ⟨k,rfl,q⟩
  · obtain⟨u,rfl,t,rfl⟩:=ky r
    exact call_int_int ⟨.int i,H,I,⟨_,rfl⟩,q⟩
  · obtain⟨u,rfl,r1⟩:=ky r
    cases r1
    exact call_int_bool ⟨.int (if k then 1 else 0),H,I.tok _,⟨_,rfl⟩,q⟩
end
end L2
namespace L2
open PySem PySem.Spec PyProof.Rows
structure ObjM (h:Heap) (x dx C:Addr) (mA:Str->Option Value):Prop where
  obj:h.get? x=some (PySem.W.instObj C dx)
  ns:h.Ns1 dx mA
  ne:dx ≠ x
theorem oy {h:Heap} {dx:Addr} {mA:Str->Option Value} (n:h.Ns1 dx mA):∃ od,h.get? dx=some od/\∀ name,PySem.W.lookIn name od=some (mA name):=by
  obtain⟨o,es,ep,ho,hd,hk,_,hm⟩:=n
  refine⟨o,ho,fun name=>?_⟩
  have e:=hm name
  unfold nsFind findBy at e
  rw[<- Array.find?_toList] at e
  unfold PySem.W.lookIn
  rw[hd]
  dsimp only
  split
  · rename_i y q
    rw[q] at e
    exact congrArg some e
  · rename_i q
    rw[q] at e
    have a:es.toList.any (·.refKey)=false:=by
      rw[List.any_eq_false]
      intro y hy
      obtain⟨z,t,hkey⟩:=hk y (Array.mem_toList_iff.mp hy)
      simp[DictEntry.refKey,hkey]
    have a':¬ es.toList.any (·.refKey)=true:=by rw[a];exact Bool.false_ne_true
    rw[if_neg a']
    exact congrArg some e
theorem ObjM.look {h:Heap} {x dx C:Addr} {mA:Str->Option Value} (I:ObjM h x dx C mA):∃ od,PySem.W.InstAt h x (PySem.W.instObj C dx) C (some od)/\∀ name,PySem.W.lookIn name od=some (mA name):=
  let ⟨od,ho,hl⟩:=oy I.ns
  ⟨od,⟨I.obj,rfl,rfl,ho⟩,hl⟩
section
variable {prog:Program} {w:World} {A:Around} {E:Value->Shared->Prop} {s:Shared} {K:W.Frag} {x dx C f:Addr} {mA:Str->Option Value} {name:Str} {v:Value}
end
theorem RelO.some_of {v:V} {o:Option Value} (r:RelO (some v) o):∃ u,o=some u/\RelV v u:=by
  cases o with
  | none=>exact (show False from r).elim
  | some u=>exact⟨u,rfl,r⟩
section
variable {P:Program} {w:World} {H H':Hp} {h h':Heap} {a C dx:Addr} {fs fs':List (Str × V)}
theorem uO (hok:HOk P w H h) (e:H a=some (.ins C dx fs)):∃ mA,ObjM h a dx C mA/\(∀ f,RelO (fs.lookup f) (mA f))/\PySem.Within mA (fs.map (·.1))/\fs.length <= 1000/\H dx=some (.own a):=by
  obtain⟨d,z,ne,ob,mA,n,r,q⟩:=(show ObjOk P w H h a (.ins C dx fs) from hok a _ e)
  exact⟨mA,⟨ob,n,ne⟩,r,q,z,d⟩
end
structure Cls (K:W.Frag) (C:Addr):Prop where
  pg:PySem.W.plainGet K C Str.empty=true
  hd:PySem.W.hasDictIn K C=true
  po:PySem.W.plainOver K C=true
  sa:PySem.W.findIn K (.ref C) "__setattr__" = some (some (.builtin "object.__setattr__"))
theorem Cls.get {K:W.Frag} {C:Addr} (c:Cls K C) (f:Str):PySem.W.plainGet K C f=true:=c.pg
section
variable {X:Cx} {pins:List (Addr × Obj)} {σ:St} {H:Hp} {s:Shared} {a C dx:Addr} {fs:List (Str × V)} {f:Str} {v:V} {A:Around} {E:Value->Shared->Prop}
end
section
variable {X:Cx} {o e value:Expr} {f:Str} {pos pos' tpos:Pos} {ta tv:TE}
end
section
variable {X:Cx} {pins:List (Addr × Obj)} {σ:St} {H:Hp} {s:Shared} {A:Around} {E:Value->Shared->Prop} {Q:Value->Shared->Prop} {c:Value} {b:Bool}
inductive mz (K:W.Frag) (H:Hp):V->Value->Prop where
  | non:mz K H .non (.type "NoneType")
  | bl (x:Bool):mz K H (.bl x) (.type "bool")
  | int (i:Int):mz K H (.int i) (.type "int")
  | str (x:Str):mz K H (.str x) (.type "str")
  | flt (x:UInt64):mz K H (.flt x) (.type "float")
  | lst {a:Addr} {xs:List V} (e:H a=some (.lst xs)):mz K H (.ref a) (.type "list")
  | frz {a:Addr} {o:Obj} {xs:List V} (e:H a=some (.frz o (.lst xs))):mz K H (.ref a) (.type "list")
  | tup {a:Addr} {xs:List V} (e:H a=some (.tup xs)):mz K H (.ref a) (.type "tuple")
  | dK {a:Addr} {kvs:List (Key × V)} (e:H a=some (.dK kvs)):mz K H (.ref a) (.type "dict")
  | dT {a:Addr} {kvs:List (List Key × V)} (e:H a=some (.dT kvs)):mz K H (.ref a) (.type "dict")
  | ins {a C dx:Addr} {fs:List (Str × V)} (e:H a=some (.ins C dx fs)) (cl:Cls K C) (ha:PySem.W.findIn K (.ref C) "__class__" = some (some (.builtin "object.__class__")))
      (hn:PySem.W.specialIn K (.builtin "object.__class__") "__get__" = some (some (.builtin "getset_descriptor.__get__"))) (htk:PySem.W.takesIn K (.builtin "object.__class__")=some true)
      (hm:PySem.W.mroIn K C (.type "object")=some true):mz K H (.ref a) (.ref C)
theorem oM {x:V} {u t:Value} (I:Inv X pins σ H s) (rx:RelV x u) (ty:mz X.K H x t) (e:PySem.W.kitOne X.K t c=some b) (h:∀ tk,Q (.bool b) { s with toks:=tk }) :
    wpAny (model X.prog X.w) A (call (.builtin "isinstance") [u,c]) Q E s:=by
  cases ty with
  | non=>cases (show u=Value.none from rx);exact PySem.W.kia_one PySem.W.kitx_none I.kIn True.intro e (fun z=>nomatch z) h
  | bl y=>cases (show u=Value.bool y from rx);exact PySem.W.kia_one PySem.W.kitx_bool I.kIn True.intro e (fun z=>nomatch z) h
  | int i=>obtain⟨t,q⟩:=(show ∃ t,u=Value.int i t from rx);cases q;exact PySem.W.kia_one PySem.W.kitx_int I.kIn True.intro e (fun z=>nomatch z) h
  | str y=>obtain⟨t,q⟩:=(show ∃ t,u=Value.str y t from rx);cases q;exact PySem.W.kia_one PySem.W.kitx_str I.kIn True.intro e (fun z=>nomatch z) h
  | flt y=>obtain⟨t,q⟩:=(show ∃ t,u=Value.float y t from rx);cases q;exact PySem.W.kia_one PySem.W.kitx_float I.kIn True.intro e (fun z=>nomatch z) h
  | @lst a xs ea=>
    cases (show u=Value.ref a from rx)
    obtain⟨_,_,n,_,h1⟩:=(show ObjOk X.prog X.w H s.heap a (.lst xs) from I.hok a _ ea)
    exact PySem.W.kia_one PySem.W.kitx_list I.kIn ⟨_,h1,rfl⟩ e (fun z=>nomatch z) h
  | @frz a ob xs ea=>
    cases (show u=Value.ref a from rx)
    obtain⟨_,_,_,n,_,h1⟩:=(show ObjOk X.prog X.w H s.heap a (.frz ob (.lst xs)) from I.hok a _ ea)
    exact PySem.W.kia_one PySem.W.kitx_list I.kIn ⟨_,h1,rfl⟩ e (fun z=>nomatch z) h
  | @tup a xs ea=>
    cases (show u=Value.ref a from rx)
    obtain⟨_,_,_,p⟩:=(show ObjOk X.prog X.w H s.heap a (.tup xs) from I.hok a _ ea)
    obtain⟨o,h1,h2,_⟩:=p
    exact PySem.W.kia_one PySem.W.kitx_tuple I.kIn ⟨o,h1,h2⟩ e (fun z=>nomatch z) h
  | @dK a kvs ea=>
    cases (show u=Value.ref a from rx)
    obtain⟨_,_,vs,_,p⟩:=(show ObjOk X.prog X.w H s.heap a (.dK kvs) from I.hok a _ ea)
    obtain⟨o,es,ep,h1,h2,_⟩:=p
    exact PySem.W.kia_one PySem.W.kitx_dict I.kIn ⟨o,h1,h2.1⟩ e (fun z=>nomatch z) h
  | @dT a kvs ea=>
    cases (show u=Value.ref a from rx)
    obtain⟨_,_,xs,_,o,es,ep,h1,h2,_⟩:=(show ObjOk X.prog X.w H s.heap a (.dT kvs) from I.hok a _ ea)
    exact PySem.W.kia_one PySem.W.kitx_dict I.kIn ⟨o,h1,h2.1⟩ e (fun z=>nomatch z) h
  | @ins a C dx fs ea cl ha hn htk hm=>
    cases (show u=Value.ref a from rx)
    obtain⟨mA,O,_⟩:=uO I.hok ea
    obtain⟨od,J,_⟩:=O.look
    exact PySem.W.kia_one (PySem.W.kitx_own (cl.get _) cl.hd ha hn htk hm) I.kIn J e (fun z=>nomatch z) h
end
end L2
namespace L2
open PySem PySem.Spec PyProof.Rows
structure Room (k:Nat) (A:Around):Prop where
  hd:A.handled=none
  dp:A.depth+3 * k+5 < recursionLimit
  un:A.units+16 * k+200 < cLine
  gd:A.guards=some []
theorem Room.mono {j k:Nat} {A:Around} (r:Room k A) (h:j <= k):Room j A:=⟨r.hd,by have:=r.dp;omega,by have:=r.un;omega,r.gd⟩
theorem Room.deeper {k:Nat} {A:Around} (r:Room (k+1) A) (env:Env):Room k (A.deeper env):=
  ⟨r.hd,by have:=r.dp;show A.depth+1+3 * k+5 < _;omega,by have:=r.un;show A.units+3+16 * k+200 < _;omega,by first | exact r.gd | (show pushGuards _ A.guards=_;rw[r.gd];rfl)⟩
theorem Room.depth {k:Nat} {A:Around} (r:Room k A):A.depth < recursionLimit:=by have:=r.dp;omega
theorem Room.units {k:Nat} {A:Around} (r:Room k A):A.units+64 < cLine:=by have:=r.un;omega
noncomputable def tNil:TA:=fun _ H Q=>Q [] H
noncomputable def tCons (ta:TE) (tr:TA):TA:=fun σ H Q=>ta σ H fun x H1=>tr σ H1 fun xs H2=>Q (x::xs) H2
section
variable {X:Cx} {e:Expr} {es:List Expr} {te:TE} {t:TA} {pos:Pos}
theorem pa_nil:PA X [] tNil:=fun _ _ _ _ H Q I h=>Calls.spliced_nil ⟨[],H,I,.nil,h⟩
theorem ce (ha:PE X e te) (hr:PA X es t) (hs:starEach (e::es) X.env=(false,eval e X.env)::starEach es X.env:=by rfl):PA X (e::es) (tCons te t):=by
  intro pos pins s σ H Q I h
  rw[hs]
  show wpAny _ _ (spliced ((false,eval e X.env)::backTo pos (starEach es X.env))) _ _ s
  refine Calls.spliced_cons (thn (ha pins s σ H _ I h) fun u s1 ⟨x,H1,I1,r1,q1⟩=>?_)
  exact thn (hr pos pins s1 σ H1 _ I1 q1) fun us s2 ⟨xs,H2,I2,r2,q2⟩=>⟨x::xs,H2,I2,.cons r1 r2,q2⟩
def tTup (t:TA):TE:=fun σ H Q=>t σ H fun xs H1=>xs.length <= sizeLine/\∀ p,H1 p=none->Q (.ref p) (upd H1 p (.tup xs))
def tLst (t:TA):TE:=fun σ H Q=>t σ H fun xs H1=>xs.length <= sizeLine/\∀ p,H1 p=none->Q (.ref p) (upd H1 p (.lst xs))
theorem pe_tup {x1} (h:PA X es t):PE X (.Tuple es x1 pos) (tTup t):=by
  intro pins s σ H Q I hq
  refine wpAny_Tuple_spliced (thn (h pos pins s σ H _ I hq) fun us s1 ⟨xs,H1,I1,r,z,q⟩=>⟨by rw[<- r.length];exact z,?_⟩)
  have hf:H1 s1.heap.objs.size=none:=I1.hok.fresh (Nat.le_refl _)
  refine⟨.ref s1.heap.objs.size,upd H1 s1.heap.objs.size (.tup xs),I1.laid (t':=s1.toks) (fun b u e=>Heap.get?_push_of_some _ e) (Nat.le_refl _) ?_,rfl,q _ hf⟩
  exact⟨⟨z,TpN.new _ _ rfl⟩,us,r,⟨_,Heap.get?_push_size _ rfl,rfl,_,rfl⟩⟩
theorem pe_lst (h:PA X es t):PE X (.List es pos) (tLst t):=by
  intro pins s σ H Q I hq
  refine wpAny_List_spliced (thn (h pos pins s σ H _ I hq) fun us s1 ⟨xs,H1,I1,r,z,q⟩=>⟨by rw[<- r.length];exact z,?_⟩)
  have hf:H1 s1.heap.objs.size=none:=I1.hok.fresh (Nat.le_refl _)
  refine⟨.ref s1.heap.objs.size,upd H1 s1.heap.objs.size (.lst xs),I1.laid (t':=s1.toks) (fun b u e=>Heap.get?_push_of_some _ e) (Nat.le_refl _) ?_,rfl,q _ hf⟩
  exact⟨z,us,0,r,Heap.get?_push_size _ rfl⟩
end
abbrev Sp:=List V->Hp->VK->XK->Prop
abbrev CXT:=List Env->Hp->Shared->XK->Value->Shared->Prop
structure xw (P:Program) (w:World) (K:W.Frag) (mg:Str->Option Value) (base:Heap) (A:Around) (outer:List Env) (s:Shared) (H:Hp):Prop where
  frames:A.frames=some outer
  mod:Mod K mg base
  bs:∀ b o,base.get? b=some o->s.heap.get? b=some o/\H b=none
  bsz:base.objs.size <= s.heap.objs.size
  funs:s.heap.FunFrames base outer
  frf:∀ b ∈ frs outer,H b=none
  hok:HOk P w H s.heap
  bare:AllBare s.gens
def CE (outer:List Env) (P:Program) (w:World) (H:Hp) (s:Shared) (Q:VK) (u:Value) (s':Shared):Prop:=
  ∃ v H',s'.os=s.os/\AllBare s'.gens/\Un (frs outer) [] H H' s.heap s'.heap/\HOk P w H' s'.heap/\RelV v u/\Q v H'
def CR (CX:CXT) (outer:List Env) (P:Program) (w:World) (H:Hp) (s:Shared) (Q:VK) (E:XK) (r:Result) (s':Shared):Prop:=
  match r with
  | .ok (.ret u)=>CE outer P w H s Q u s'
  | .ok _=>False
  | .error e=>CX outer H s E e s'
structure FnOk (P:Program) (w:World) (K:W.Frag) (mg:Str->Option Value) (base:Heap) (CX:CXT) (k:Nat) (f:Addr) (fd:FuncData) (ps:List Str) (sp:Sp):Prop where
  len:∀ vs H Q E,sp vs H Q E->vs.length=ps.length
  run:∀ (A:Around) (outer:List Env) (s:Shared) (H:Hp) (args:Args) (us:List Value) (vs:List V) (Q:VK) (E:XK),Room k A->xw P w K mg base A outer s H->BindsTo s fd args (ps.zip us)->Vals vs us->sp vs H Q E ->
    codeAny (model P w) A (.call (.ref f) args) (CR CX outer P w H s Q E) s
theorem FnOk.mono {P:Program} {w:World} {K:W.Frag} {mg:Str->Option Value} {base:Heap} {CX:CXT} {j k:Nat} {f:Addr} {fd:FuncData} {ps:List Str} {sp:Sp} (F:FnOk P w K mg base CX j f fd ps sp) (h:j <= k) :
    FnOk P w K mg base CX k f fd ps sp:=⟨F.len,fun A outer s H args us vs Q E hr=>F.run A outer s H args us vs Q E (hr.mono h)⟩
section
variable {X:Cx} {pins:List (Addr × Obj)} {σ:St} {H:Hp} {s s':Shared}
theorem Inv.env0 (I:Inv X pins σ H s):xw X.prog X.w X.K X.mg X.base X.A X.stack s H:=
  ⟨I.ok.frames,I.ok.mod,I.bs,Nat.le_trans I.ok.bsz I.sz,I.stack,I.stkFree,I.hok,I.bare⟩
theorem Inv.after {Q:VK} {u:Value} (I:Inv X pins σ H s) (h:CE X.stack X.prog X.w H s Q u s'):EP X pins σ Q u s':=by
  obtain⟨v,H',os,bare,un,hok,r,q⟩:=h
  obtain⟨hh,g,d,t,os'⟩:=s'
  obtain rfl:os'=s.os:=os
  exact⟨v,H',I.call (h':=hh) (g':=g) (d':=d) (t':=t) (ch:=[]) un hok bare (fun b z=>absurd z (by simp)),r,q⟩
end
def tCall (sp:Sp) (dvs:List V) (E:XK) (t:TA):TE:=fun σ H Q=>t σ H fun vs H1=>sp (vs++dvs) H1 Q E
def Binds (K:W.Frag) (fd:FuncData) (ps:List Str) (ds:List Value):Prop:=
  ∀ (s:Shared) (us:List Value),K.In s.heap->(us++ds).length=ps.length->BindsTo s fd ⟨us,[]⟩ (ps.zip (us++ds))
theorem Binds.all {K:W.Frag} {fd:FuncData} {ps:List Str} (h:∀ us:List Value,us.length=ps.length->bindArgs fd ⟨us,[]⟩=pure (ps.zip us)):Binds K fd ps []:=fun s us _ hl=>by
  rw[List.append_nil] at hl ⊢
  exact .of_eq (h us hl)
def gk (CX:CXT) (X:Cx) (E:XK):Prop:=∀ (pins:List (Addr × Obj)) (σ:St) (H:Hp) (s:Shared) (e:Value) (s':Shared),Inv X pins σ H s->CX X.stack H s E e s'->X.xe e s'
section
variable {X:Cx} {CX:CXT} {k:Nat} {f C:Addr} {fd:FuncData} {ps:List Str} {sp:Sp} {dvs:List V} {ds:List Value} {E:XK} {x m:Str} {p pos apos:Pos} {e o:Expr} {es:List Expr} {ta:TE} {t:TA}
theorem wm {pins:List (Addr × Obj)} {σ:St} {H:Hp} {s:Shared} {Q:VK} {us:List Value} {vs:List V} (F:FnOk X.prog X.w X.K X.mg X.base CX k f fd ps sp) (hr:Room k X.A) (hb:Binds X.K fd ps ds) (hd:Vals dvs ds) (hx:gk CX X E)
    (I:Inv X pins σ H s) (r:Vals vs us) (h:sp (vs++dvs) H Q E):wpAny (model X.prog X.w) X.A (call (.ref f) us) (EP X pins σ Q) X.xe s:=by
  have r2:Vals (vs++dvs) (us++ds):=r.append hd
  have hl:(us++ds).length=ps.length:=by rw[<- r2.length];exact F.len _ _ _ _ h
  refine wpAny_call (codeAny_mono (F.run X.A X.stack s H ⟨us,[]⟩ (us++ds) (vs++dvs) Q E hr I.env0 (hb s us I.kIn hl) r2 h) fun r s' hq=>?_)
  cases r with
  | error e=>exact hx pins σ H s e s' I hq
  | ok fl=>
    cases fl with
    | ret u=>exact I.after hq
    | next=>exact False.elim hq
    | brk=>exact False.elim hq
    | cont=>exact False.elim hq
theorem pe_call (F:FnOk X.prog X.w X.K X.mg X.base CX k f fd ps sp) (hr:Room k X.A) (hg:Gl X x) (hm:X.mg x=some (.ref f)) (hk:PySem.W.keepIn X.K (.ref f)=true) (hb:Binds X.K fd ps ds) (hd:Vals dvs ds) (hx:gk CX X E)
    (ha:PA X (e::es) t) (hdb:(x == ("__debug__" : Str))=false:=by decide) (he:starEach (e::es) X.env=(false,eval e X.env)::starEach es X.env:=by rfl) (hpl:(backTo pos (starEach es X.env)).any (·.1)=false:=by rfl) :
    PE X (.Call (.Name x p) (e::es) [] pos) (tCall sp dvs E t):=by
  intro pins s σ H Q I h
  refine wpAny_Call_Name_kw (eZ I hg hm ?_ hdb)
  refine PySem.W.callWith_K (h₀:=X.base) I.ok.mod.kin hk (thn (ha pos pins s σ H _ I h) fun us s1 ⟨vs,H1,I1,r,q⟩=>⟨I1.kIn,?_⟩) he hpl
  exact wm F hr hb hd hx I1 r q
end
section
variable {X:Cx} {CX:CXT} {k:Nat} {f C:Addr} {fd:FuncData} {ps ks:List Str} {sp:Sp} {E:XK} {x m:Str} {p pos apos kpos:Pos} {e o:Expr} {es:List Expr} {kws:List Keyword} {te ta:TE} {t tk:TA} {nm:Option Str}
variable {g:List Value->List Value->List Value} {gV:List V->List V->List V}
end
structure aF (N P:List Str) (sc:Scope):Prop where
  kind:sc.kind=.function
  co:sc.isCoroutine=false
  gen:sc.isGenerator=false
  nd:N.Nodup
  pre:N.take P.length=P
  par:∀ x ∈ P,sc.names.lookup x=some .local\/sc.names.lookup x=some .cell
  nofree:∀ y ∈ sc.names,y.2 ≠ .free
theorem iO {kindOf:Str->Option NameKind} {x:Str}:∀ {binds:List (Str × Value)} {m:Str->Option Value},(∀ v,(x,v) ∉ binds)->bindL kindOf binds m x=m x
  | [],_,_=>rfl
  | (n,v)::r,m,h=>by
    unfold bindL
    rw[iO fun w hw=>h w (List.mem_cons_of_mem _ hw)]
    split
    · have:x ≠ n:=by rintro rfl;exact h v List.mem_cons_self
      simp[this]
    · rfl
theorem iQ {kindOf:Str->Option NameKind} {x:Str}:∀ {binds:List (Str × Value)} {m:Str->Option Value},(∀ v,(x,v) ∉ binds)->bindC kindOf binds m x=m x
  | [],_,_=>rfl
  | (n,v)::r,m,h=>by
    unfold bindC
    rw[iQ fun w hw=>h w (List.mem_cons_of_mem _ hw)]
    split
    · rfl
    · have:x ≠ n:=by rintro rfl;exact h v List.mem_cons_self
      simp[this]
theorem iP {kindOf:Str->Option NameKind} {x:Str} {v:Value}:∀ {P:List Str} {vs:List Value} {i:Nat} {m:Str->Option Value},P.Nodup->P[i]?=some x->vs[i]?=some v->kindOf x=some .local ->
    bindL kindOf (P.zip vs) m x=some v
  | [],_,_,_,_,h,_,_=>by simp at h
  | _::_,[],_,_,_,_,h,_=>by simp at h
  | p::P,w::vs,0,m,nd,h1,h2,hk=>by
    simp at h1 h2;subst h1;subst h2
    show bindL kindOf ((p,w)::P.zip vs) m p=_
    unfold bindL
    rw[iO fun v hv=>(List.nodup_cons.mp nd).1 (List.of_mem_zip hv).1,if_pos hk]
    simp
  | p::P,w::vs,i+1,m,nd,h1,h2,hk=>by
    show bindL kindOf ((p,w)::P.zip vs) m x=_
    unfold bindL
    exact iP (i:=i) (List.nodup_cons.mp nd).2 (by simpa using h1) (by simpa using h2) hk
theorem iR {kindOf:Str->Option NameKind} {x:Str} {v:Value}:∀ {P:List Str} {vs:List Value} {i:Nat} {m:Str->Option Value},P.Nodup->P[i]?=some x->vs[i]?=some v->kindOf x ≠ some .local ->
    bindC kindOf (P.zip vs) m x=some v
  | [],_,_,_,_,h,_,_=>by simp at h
  | _::_,[],_,_,_,_,h,_=>by simp at h
  | p::P,w::vs,0,m,nd,h1,h2,hk=>by
    simp at h1 h2;subst h1;subst h2
    show bindC kindOf ((p,w)::P.zip vs) m p=_
    unfold bindC
    rw[iQ fun v hv=>(List.nodup_cons.mp nd).1 (List.of_mem_zip hv).1,if_neg hk]
    simp
  | p::P,w::vs,i+1,m,nd,h1,h2,hk=>by
    show bindC kindOf ((p,w)::P.zip vs) m x=_
    unfold bindC
    exact iR (i:=i) (List.nodup_cons.mp nd).2 (by simpa using h1) (by simpa using h2) hk
noncomputable def start (N:List Str) (vs:List V):St:=vs.map some++List.replicate (N.length - vs.length) none
noncomputable def cm (CX:CXT) (P:Program) (w:World) (K:W.Frag) (mg:Str->Option Value) (base:Heap) (N:List Str) (qual:Str) (scope:Scope) (f:Addr) (cd:Value) (A:Around) (outer:List Env) (s:Shared) (H:Hp) (E:XK):Cx where
  prog:=P
  w:=w
  K:=K
  mg:=mg
  base:=base
  A:=A.deeper (envOfC qual scope s.heap.objs.size f cd)
  N:=N
  s₀:=s
  H₀:=H
  env:=envOfC qual scope s.heap.objs.size f cd
  outer:=outer
  stack:=envOfC qual scope s.heap.objs.size f cd::outer
  ex:=[]
  calm:=true
  fn:=fun _=>true
  pn:=[]
  xe:=fun e s'=>wpAny (model P w) (A.deeper (envOfC qual scope s.heap.objs.size f cd)) (leaving (envOfC qual scope s.heap.objs.size f cd) e) (fun _ s''=>CX outer H s E e s'') (fun e' s''=>CX outer H s E e' s'') s'
theorem kq {sc:Scope} {n:Nat} {x:Str} (h:sc.names.lookup x=some .cell):∃ c,(cellsFrom n sc.names []).lookup x=some c:=by
  have q:=PySem.W.cellsFrom_some sc.names n [] (.inl h)
  exact Option.isSome_iff_exists.mp q
theorem oP {CX:CXT} {P:Program} {w:World} {K:W.Frag} {mg:Str->Option Value} {base:Heap} {N ps:List Str} {qual:Str} {scope:Scope} {f:Addr} {cd:Value} {A:Around} {outer:List Env} {s s1:Shared} {H:Hp} {E:XK} {us:List Value} {vs:List V}
    (S:aF N ps scope) (hd:A.handled=none) (e0:xw P w K mg base A outer s H) (hl:vs.length=ps.length) (r:Vals vs us)
    (x:InCallC s s.heap.objs.size (bindL (envOfC qual scope s.heap.objs.size f cd).kindOf (ps.zip us) fun _=>none) (cellsFrom (s.heap.objs.size+1) scope.names []) (bindC (envOfC qual scope s.heap.objs.size f cd).kindOf (ps.zip us) fun _=>none) s1) :
    Inv (cm CX P w K mg base N qual scope f cd A outer s H E) [] (start N vs) H s1:=by
  have hpl:ps.length <= N.length:=by have:=congrArg List.length S.pre;rw[List.length_take] at this;omega
  obtain⟨h1,tk,rfl,hk⟩:=x.done
  have noA:∀ b:Addr,b ∉ (cm CX P w K mg base N qual scope f cd A outer s H E).ex:=fun b z=>absurd (show b ∈ ([]:List Addr) from z) (by simp)
  refine⟨⟨e0.mod,S.kind,rfl,rfl,Nat.le_refl _,fun y z c h1 h2=>?_,fun y hy=>?_,fun y c _ h=>?_,fun _=>hd,Around.frames_deeper e0.frames,.inr ⟨rfl,rfl⟩,fun b z=>absurd z (noA b),e0.bs,e0.bsz,fun b _ _=>noA b,fun b z=>absurd z (noA b),e0.funs,e0.frf⟩,
    rfl,e0.bare,Un.kept hk,⟨_,x.toInCall.ns,fun i y v h1 h2 h3=>?_⟩,fun y c h=>⟨_,x.cell y c h⟩,e0.hok.fresh (Nat.le_refl _),fun y c h=>?_,fun p hp=>absurd (show p ∈ ([]:List (Addr × Obj)) from hp) (by simp),e0.hok.kept hk,?_⟩
  · exact name_of_addr x.apart (PySem.mem_of_lookup h1) (PySem.mem_of_lookup h2)
  · have hy:scope.names.lookup y=some .cell\/scope.names.lookup y=some .free:=hy
    rcases hy with hy | hy
    · exact kq hy
    · exact absurd rfl (S.nofree _ (PySem.mem_of_lookup hy))
  · exact Nat.le_of_lt (x.above y c (PySem.mem_of_lookup h))
  · have hi:i < vs.length:=by
      unfold start at h2
      by_cases hi:i < vs.length
      · exact hi
      · rw[List.getElem?_append_right (by simpa using hi)] at h2
        rw[List.getElem?_replicate] at h2
        split at h2 <;> cases h2
    have ha:vs[i]?=some v:=by
      unfold start at h2
      rw[List.getElem?_append_left (by simpa using hi),List.getElem?_map] at h2
      cases e:vs[i]? with
      | none=>rw[e] at h2;cases h2
      | some a=>rw[e] at h2;cases h2;rfl
    obtain⟨u,hu,rv⟩:=r.get ha
    have hp:ps[i]?=some y:=by
      rw[<- S.pre,List.getElem?_take_of_lt (by omega)];exact h1
    have ndP:ps.Nodup:=by rw[<- S.pre];exact S.nd.sublist (List.take_sublist _ _)
    refine⟨u,rv,?_⟩
    rcases S.par y (List.mem_of_getElem? hp) with k | k
    · exact .inl ⟨k,iP ndP hp hu k⟩
    · obtain⟨c,e⟩:=kq (n:=s.heap.objs.size+1) k
      refine .inr ⟨.inl k,c,e,?_⟩
      have q:=x.cell y c e
      rw[iR ndP hp hu (by show scope.names.lookup y ≠ _;rw[k];decide)] at q
      exact q
  · exact e0.hok.fresh (Nat.le_of_lt (x.above y c (PySem.mem_of_lookup h)))
  · unfold start
    show _=N.length
    rw[List.length_append,List.length_map,List.length_replicate]
    omega
theorem xb {CX:CXT} {P:Program} {w:World} {K:W.Frag} {mg:Str->Option Value} {base:Heap} {k:Nat} {f:Addr} {name qual:Str} {params:Arguments} {body:List Stmt} {scope:Scope} {dV kV doc pm cdv ct oc:Value} {an od:Option Addr}
    {osl:Array (Option Value)} {N ps:List Str} {sp:Sp} (lk:K.lookup f=some ⟨oc,od,.func (PySem.W.fnOf name qual params body scope dV kV doc pm an cdv ct),osl⟩) (hcd:PySem.W.codeIn K cdv qual=true) (S:aF N ps scope)
    (len:∀ vs H Q E,sp vs H Q E->vs.length=ps.length)
    (hbody:∀ (A:Around) (outer:List Env) (s:Shared) (H:Hp) (vs:List V) (Q:VK) (E:XK),Room k (A.deeper (envOfC qual scope s.heap.objs.size f cdv))->sp vs H Q E ->
      ∃ t,PSs (cm CX P w K mg base N qual scope f cdv A outer s H E) body t/\t { nx:=fun _ H'=>Q .non H',rt:=Q } (start N vs) H) :
    FnOk P w K mg base CX (k+1) f (PySem.W.fnOf name qual params body scope dV kV doc pm an cdv ct) ps sp:=by
  refine⟨len,fun A outer s H args us vs Q E hr e0 hb r hsp=>?_⟩
  have hl:=len _ _ _ _ hsp
  have KX:K.In s.heap:=e0.mod.kin.keeps fun b o e=>(e0.bs b o e).1
  have lim:s.heap.NoLimit:=e0.mod.nolimit.keeps fun b o e=>(e0.bs b o e).1
  have hkind:∀ y ∈ ps.zip us,scope.names.lookup y.1=some .local\/(scope.names.lookup y.1=some .cell/\((cellsFrom (s.heap.objs.size+1) scope.names []).lookup y.1).isSome=true):=fun⟨n,v⟩ hy=>by
    rcases S.par n (List.of_mem_zip hy).1 with q | q
    · exact .inl q
    · exact .inr ⟨q,PySem.W.cellsFrom_some _ _ _ (.inl q)⟩
  refine codeAny_call_function hr.depth (KX _ _ lk) rfl S.co S.gen rfl (PySem.W.codeRec_of KX hcd) (hb _ _ _ _ ?_)
  refine wpAny_newFunctionEnv_cells S.kind hkind fun env he s1 x=>?_
  subst he
  refine⟨lim.keeps x.toInCall.keep,codeAny_func ?_⟩
  obtain⟨t,ht,hq⟩:=hbody A outer s H vs Q E (hr.deeper _) hsp
  have I:Inv (cm CX P w K mg base N qual scope f cdv A outer s H E) [] (start N vs) H s1:=oP S hr.hd e0 hl r x
  refine wpAny_mono (ht [] s1 (start N vs) H _ I hq) (fun fl s' hs=>?_) fun e s' hs=>hs
  have fin:∀ {σ':St} {H':Hp} {v:V} {u:Value},Inv (cm CX P w K mg base N qual scope f cdv A outer s H E) [] σ' H' s'->RelV v u->Q v H'->CE outer P w H s Q u s':=
    fun {σ' H' v u} J rv q=>⟨v,H',J.os,J.bare,J.base,J.hok,rv,q⟩
  cases fl with
  | ret u=>
    obtain⟨v,σ',H',J,rv,q⟩:=hs
    exact fin J rv q
  | next=>
    obtain⟨σ',H',J,q⟩:=hs
    exact fin (v:=V.non) (u:=Value.none) J rfl q
  | brk=>
    obtain⟨_,_,_,q⟩:=hs
    exact False.elim q
  | cont=>
    obtain⟨_,_,_,q⟩:=hs
    exact False.elim q
end L2
namespace L2
open PySem PySem.Spec PyProof.Rows
section
variable {X:Cx} {x:Str} {p pos:Pos} {e:Expr} {es:List Expr} {t:TA} {id T:String} {r:List V->Hp->VK->Prop}
def tCB (r:List V->Hp->VK->Prop) (t:TA):TE:=fun σ H Q=>t σ H fun vs H1=>r vs H1 Q
theorem pe_callB (hc:CallR X (.builtin id) r) (hg:Gl X x) (hm:X.mg x=none) (hv:bootBuiltins x=some (.builtin id)) (ha:PA X (e::es) t) (hn:x ≠ "__name__":=by decide) (hdb:(x == ("__debug__" : Str))=false:=by decide)
    (he:starEach (e::es) X.env=(false,eval e X.env)::starEach es X.env:=by rfl) (hpl:(backTo pos (starEach es X.env)).any (·.1)=false:=by rfl):PE X (.Call (.Name x p) (e::es) [] pos) (tCB r t):=by
  intro pins s σ H Q I h
  refine wpAny_Call_Name_kw (dg I hg hm hv ?_ hn hdb)
  exact PyProof.Rows.callWith_builtin1 (thn (ha pos pins s σ H _ I h) fun us s1 ⟨vs,H1,I1,r1,q1⟩=>hc pins s1 σ H1 vs us Q I1 r1 q1) he hpl
theorem pe_callTy (hc:CallR X (.type T) r) (hg:Gl X x) (hm:X.mg x=none) (hv:bootBuiltins x=some (.type T)) (ha:PA X (e::es) t) (hn:x ≠ "__name__":=by decide) (hdb:(x == ("__debug__" : Str))=false:=by decide)
    (he:starEach (e::es) X.env=(false,eval e X.env)::starEach es X.env:=by rfl) (hpl:(backTo pos (starEach es X.env)).any (·.1)=false:=by rfl):PE X (.Call (.Name x p) (e::es) [] pos) (tCB r t):=by
  intro pins s σ H Q I h
  refine wpAny_Call_Name_kw (dg I hg hm hv ?_ hn hdb)
  exact PyProof.Rows.callWith_type1 (thn (ha pos pins s σ H _ I h) fun us s1 ⟨vs,H1,I1,r1,q1⟩=>hc pins s1 σ H1 vs us Q I1 r1 q1) he hpl
end
end L2
namespace HT
open PySem PyProof.Rows
section
open PySem.SeqAt
open PySem.AutoSeq1 (wpAny_loadPart')
open PySem.MeetsSeq PySem.MeetsSeq2 PySem.MeetsSeq3
end
section
variable {prog:Program} {w:World} {A:Around} {E:Value->Shared->Prop} {s:Shared}
theorem cat_tup {t b:Addr} {vs ws:List Value} {Q:Value->Shared->Prop} (ht:IsTup s.heap t vs.toArray) (hb:IsTup s.heap b ws.toArray) (hv:vs ≠ [])
    (h1:ws=[]->Q (.ref t) s) (h2:ws ≠ []->Q (.ref s.heap.objs.size) { s with heap:=s.heap.push { cls:=.type "tuple",data:=.seq (vs++ws).toArray } })
    (hsz:vs.length+ws.length <= sizeLine):wpAny (model prog w) A (binaryOp .Add (.ref t) (.ref b)) Q E s:=by
  obtain⟨⟨cls,dd,data,sl⟩,ho,hc,n,hd⟩:=id ht
  obtain⟨⟨cls2,dd2,data2,sl2⟩,ho2,hc2,n2,hd2⟩:=id hb
  simp only at hc hd hc2 hd2
  subst hc hd hc2 hd2
  have e:vs.toArray++ws.toArray=(vs++ws).toArray:=by simp
  by_cases hw:ws=[]
  · exact concat_meets ⟨_,ho,rfl⟩ ⟨_,ho2,rfl⟩ noFill_tuple_add seq_tuple_add PySem.F.slot_tuple_add PySem.F.entry_tuple_add (PySem.F.args_tuple_add_2 _ _)
      (tuple_addW1 t b vs.toArray ws.toArray n n2 dd dd2 sl sl2 (by simpa using hv) (by simp[hw])) ⟨ho,ho2,h1 hw⟩
  · refine concat_meets ⟨_,ho,rfl⟩ ⟨_,ho2,rfl⟩ noFill_tuple_add seq_tuple_add PySem.F.slot_tuple_add PySem.F.entry_tuple_add (PySem.F.args_tuple_add_2 _ _)
      (tuple_addW2 t b vs.toArray ws.toArray n n2 dd dd2 sl sl2 (by simpa using hv) (by simpa using hw) (by rw[List.size_toArray,List.size_toArray];exact hsz)) ⟨ho,ho2,?_⟩
    rw[e]
    exact h2 hw
noncomputable def sIx (n d:Nat):Option Int->Nat
  | none=>d
  | some v=>if v < 0 then (v+(n:Int)).toNat else min v.toNat n
theorem sIx_none (n d:Nat):sIx n d none=d:=rfl
theorem sIx_nat (n d k:Nat):sIx n d (some (k:Int))=min k n:=by
  show (if (k:Int) < 0 then ((k:Int)+(n:Int)).toNat else min (k:Int).toNat n)=min k n
  rw[if_neg (by omega),Int.toNat_natCast]
theorem wj (n d:Nat) (hd:d <= n) (o:Option Int):sIx n d o <= n:=by
  cases o with
  | none=>exact hd
  | some v=>
    show (if v < 0 then (v+(n:Int)).toNat else min v.toNat n) <= n
    by_cases hv:v < 0
    · rw[if_pos hv];omega
    · rw[if_neg hv];exact Nat.min_le_right _ _
theorem pH (v:Int) (n d:Nat):(if v < 0 then max (v+(n:Int)) 0 else min v (n:Int))=((sIx n d (some v):Nat):Int):=by
  show (if v < 0 then max (v+(n:Int)) 0 else min v (n:Int))=(((if v < 0 then (v+(n:Int)).toNat else min v.toNat n):Nat):Int)
  by_cases hv:v < 0
  · simp only[if_pos hv];omega
  · simp only[if_neg hv];omega
theorem my (lo hi:Option Int) (n:Nat):Builtin.Slice.sliceAdjust lo hi 1 (n:Int)=(((sIx n 0 lo:Nat):Int),((sIx n n hi:Nat):Int)):=by
  have h1:¬ ((1:Int) < 0):=by omega
  unfold Builtin.Slice.sliceAdjust
  simp only[h1,if_false]
  refine Prod.ext ?_ ?_
  · cases lo with
    | none=>rfl
    | some v=>exact pH v n 0
  · cases hi with
    | none=>rfl
    | some v=>exact pH v n n
theorem lV (i j:Nat):Builtin.Slice.slicePlaces (i:Int) (j:Int) 1=j - i:=by
  unfold Builtin.Slice.slicePlaces
  have h1:(1:Int) > 0:=by omega
  simp only[h1,if_true,Int.ediv_one]
  split <;> omega
theorem fQ {v:Value} {o:Option Int} {Q:Option Int->Shared->Prop} (p:IsPart v o) (h:Q o s):wpAny (model prog w) A (Builtin.Slice.slicePartIndex v) Q E s:=by
  cases p with
  | none=>exact slicePart_none h
  | int i t=>exact slicePart_int h
theorem sliceApplied_gen {sl:Addr} {vl vu:Value} {lo hi:Option Int} {n:Nat} {Q:Int × Int × Nat->Shared->Prop} (hs:s.heap.IsSliceOf sl vl vu .none) (pl:IsPart vl lo) (pu:IsPart vu hi)
    (h:Q (((sIx n 0 lo:Nat):Int),1,sIx n n hi - sIx n 0 lo) s):wpAny (model prog w) A (Builtin.Slice.sliceApplied (.ref sl) (pure (n:Int))) Q E s:=by
  obtain⟨os,hos,hcs,hds⟩:=id hs
  unfold Builtin.Slice.sliceApplied Builtin.Slice.sliceFields
  refine wpAny_bind (wpAny_bind (wpAny_field hos hds (x:=vl) rfl (wpAny_bind (wpAny_field hos hds (x:=vu) rfl (wpAny_bind (wpAny_field hos hds (x:=.none) rfl (wpAny_pure ?_)))))))
  refine wpAny_bind (slicePart_none ?_)
  show wpAny _ _ (if ((1:Int) == 0)=true then _ else _) _ _ s
  rw[if_neg (by decide)]
  refine wpAny_bind (fQ pl (wpAny_bind (fQ pu (wpAny_bind (wpAny_pure ?_)))))
  show wpAny _ _ (match Builtin.Slice.sliceAdjust lo hi 1 (n:Int) with | (lo,hi)=>pure (lo,(1:Int),Builtin.Slice.slicePlaces lo hi 1)) _ _ s
  rw[my lo hi n]
  show wpAny _ _ (pure (((sIx n 0 lo:Nat):Int),(1:Int),Builtin.Slice.slicePlaces ((sIx n 0 lo:Nat):Int) ((sIx n n hi:Nat):Int) 1)) _ _ s
  rw[lV]
  exact wpAny_pure h
theorem qq (xs:Array Value) (i k:Nat):((List.range k).filterMap fun (m:Nat)=>xs[((i:Int)+(m:Int) * 1).toNat]?).toArray=((xs.toList.drop i).take k).toArray:=by
  have e:(fun (m:Nat)=>xs[((i:Int)+(m:Int) * 1).toNat]?)=fun m=>xs[i+m]?:=by
    funext m
    have:((i:Int)+(m:Int) * 1).toNat=i+m:=by omega
    rw[this]
  rw[e]
  have:=pick_run xs i k
  rw[List.filterMap_map] at this
  have e2:((fun x=>xs[x]?) ∘ fun x=>i+x)=fun m=>xs[i+m]?:=rfl
  rw[e2] at this
  rw[this]
theorem getItem_tuple_cut {t sl:Addr} {items:Array Value} {vl vu:Value} {lo hi:Option Int} {Q:Value->Shared->Prop} (ht:IsTup s.heap t items) (hs:s.heap.IsSliceOf sl vl vu .none) (pl:IsPart vl lo) (pu:IsPart vu hi)
    (hw:¬ (sIx items.size 0 lo=0/\sIx items.size items.size hi=items.size))
    (h:Q (.ref s.heap.objs.size) { s with heap:=s.heap.push { cls:=.type "tuple",data:=.seq ((items.toList.drop (sIx items.size 0 lo)).take (sIx items.size items.size hi - sIx items.size 0 lo)).toArray } })
    (hsz:items.size <= sizeLine):wpAny (model prog w) A (getItem (.ref t) (.ref sl)) Q E s:=by
  have htake:sizeOk (.seq ((items.toList.drop (sIx items.size 0 lo)).take (sIx items.size items.size hi - sIx items.size 0 lo)).toArray):=by
    show ((items.toList.drop (sIx items.size 0 lo)).take (sIx items.size items.size hi - sIx items.size 0 lo)).toArray.size <= sizeLine
    rw[List.size_toArray,List.length_take,List.length_drop,Array.length_toList]
    omega
  have hj:sIx items.size items.size hi <= items.size:=wj _ _ (Nat.le_refl _) hi
  obtain⟨os,hos,hcs,hds⟩:=id hs
  have hTs:s.TypeIs (.ref sl) "slice":=⟨os,hos,hcs⟩
  unfold getItem
  try with_reducible refine wpAny_holding ?_
  first | refine wpAny_bind (wpAny_pure ?_) | skip
  refine wpAny_bind (wpAny_sequenceKey ht.typeIs (by decide) ?_)
  refine wpAny_bind (wpAny_callSpecial?_slot (name:=Str.ofString "__getitem__") ht.typeIs PyProof.Rows.slot_tuple_getitem
    (wpAny_call_entry PyProof.Rows.slot_tuple_getitem ht.typeIs entry_tuple_getitem ?_ (args_tuple_getitem _ _)))
  show wpAny _ _ (Builtin.Tuple.tupleItemsOf (.ref t) >>= _) _ _ s
  refine wpAny_bind (tupleItemsOf_ ht ?_)
  refine wpAny_bind (wpAny_typeOf hTs ?_)
  rw[if_pos (by decide)]
  refine wpAny_bind (sliceApplied_gen hs pl pu ?_)
  have hno:¬ ((((sIx items.size 0 lo:Nat):Int) == 0 && (1:Int) == 1 && (sIx items.size items.size hi - sIx items.size 0 lo) == items.size)=true):=by
    intro q
    rw[Bool.and_eq_true,Bool.and_eq_true] at q
    have q1:((sIx items.size 0 lo:Nat):Int)=0:=eq_of_beq q.1.1
    have q2:sIx items.size items.size hi - sIx items.size 0 lo=items.size:=eq_of_beq q.2
    exact hw ⟨by omega,by omega⟩
  show wpAny _ _ (if (((sIx items.size 0 lo:Nat):Int) == 0 && (1:Int) == 1 && (sIx items.size items.size hi - sIx items.size 0 lo) == items.size)=true then _ else _) _ _ s
  rw[if_neg hno,qq]
  first
    | exact wpAny_bind (m:=Builtin.Tuple.tupleExact _) (wpAny_newObj_type (wpAny_pure ⟨_,rfl,wpAny_pure h⟩) htake)
    | exact wpAny_bind (m:=Builtin.Tuple.tupleExact _) (wpAny_newObj_type (wpAny_bind (wpAny_pure (wpAny_pure ⟨_,rfl,wpAny_pure h⟩))) htake)
    | exact wpAny_bind (wpAny_bind (m:=Builtin.Tuple.tupleExact _) (wpAny_newObj_type (wpAny_pure (wpAny_pure ⟨_,rfl,wpAny_pure h⟩)) htake))
    | exact wpAny_bind (wpAny_bind (m:=Builtin.Tuple.tupleExact _) (wpAny_newObj_type (wpAny_pure ⟨_,rfl,wpAny_pure h⟩) htake))
end
end HT
namespace L2
open PySem PySem.Spec PyProof.Rows
abbrev TO:=St->Hp->(Option Int->Hp->Prop)->Prop
def PO (X:Cx) (e:Option Expr) (t:TO):Prop:=
  ∀ (pins:List (Addr × Obj)) (s:Shared) (σ:St) (H:Hp) (Q:Option Int->Hp->Prop),Inv X pins σ H s->t σ H Q ->
    wpAny (model X.prog X.w) X.A (evalPart e X.env) (fun u s'=>∃ o H',Inv X pins σ H' s'/\IsPart u o/\Q o H') X.xe s
noncomputable def tNoPart:TO:=fun _ H Q=>Q none H
noncomputable def tPart (t:TE):TO:=fun σ H Q=>t σ H fun x H1=>∃ i,x=.int i/\Q (some i) H1
section
variable {X:Cx} {e:Expr} {te:TE} {lo hi:Option Expr} {tl th:TO} {pos p2:Pos}
theorem po_none:PO X none tNoPart:=by
  intro pins s σ H Q I h
  rw[evalPart_none]
  exact wpAny_pure ⟨none,H,I,.none,h⟩
theorem po_some (h:PE X e te):PO X (some e) (tPart te):=by
  intro pins s σ H Q I hw
  rw[evalPart_some]
  refine thn (h pins s σ H _ I hw) fun u s1 ⟨x,H1,I1,r1,q1⟩=>?_
  obtain⟨i,rfl,q⟩:=q1
  obtain⟨t,rfl⟩:=r1
  exact⟨some i,H1,I1,.int i t,q⟩
def SlR (X:Cx) (r:V->Option Int->Option Int->Hp->VK->Prop):Prop:=
  ∀ (pins:List (Addr × Obj)) (s:Shared) (σ:St) (H:Hp) (x:V) (v vl vu:Value) (lo hi:Option Int) (sl:Addr) (Q:VK),Inv X pins σ H s->RelV x v->s.heap.IsSliceOf sl vl vu .none->IsPart vl lo->IsPart vu hi->r x lo hi H Q ->
    ∃ T id,typeLookup (.type T) "__getitem__" = pure (some (.builtin id))/\s.TypeIs v T/\wpAny (model X.prog X.w) X.A (getItem v (.ref sl)) (EP X pins σ Q) X.xe s
def tSl (r:V->Option Int->Option Int->Hp->VK->Prop) (te:TE) (tl th:TO):TE:=fun σ H Q=>te σ H fun x H1=>tl σ H1 fun l H2=>th σ H2 fun u H3=>r x l u H3 Q
theorem pe_slice {r:V->Option Int->Option Int->Hp->VK->Prop} (hr:SlR X r) (he:PE X e te) (hl:PO X lo tl) (hu:PO X hi th):PE X (.Subscript e (.Slice lo hi none p2) pos) (tSl r te tl th):=by
  intro pins s σ H Q I h
  refine Subscript_ (thn (he pins s σ H _ I h) fun v s1 ⟨x,H1,I1,r1,q1⟩=>?_)
  refine wpAny_Slice (thn (hl pins s1 σ H1 _ I1 q1) fun vl s2 ⟨l,H2,I2,pl,q2⟩=>thn (hu pins s2 σ H2 _ I2 q2) fun vu s3 ⟨u,H3,I3,pu,q3⟩=>?_)
  rw[evalPart_none]
  refine wpAny_pure ?_
  have I4:Inv X pins σ H3 { s3 with heap:=s3.heap.push { cls:=.type "slice",data:=.fields #[vl,vu,.none] } }:=I3.kept (t':=s3.toks) fun b ob q=>Heap.get?_push_of_some _ q
  obtain⟨T,id,hT,ht,hg⟩:=hr pins { s3 with heap:=s3.heap.push { cls:=.type "slice",data:=.fields #[vl,vu,.none] } } σ H3 x v vl vu l u s3.heap.objs.size Q I4 r1 (Heap.IsSliceOf.new ..) pl pu q3
  show wpAny (model X.prog X.w) X.A (subscriptTail e (.Slice lo hi none p2) v (.ref s3.heap.objs.size)) (EP X pins σ Q) X.xe { s3 with heap:=s3.heap.push { cls:=.type "slice",data:=.fields #[vl,vu,.none] } }
  exact tail_any (ops:=[.ref s3.heap.objs.size,v]) ht hT hg (by with_unfolding_all rfl)
noncomputable def fI (xs:List V) (lo hi:Option Int):List V:=(xs.drop (HT.sIx xs.length 0 lo)).take (HT.sIx xs.length xs.length hi - HT.sIx xs.length 0 lo)
theorem fE (xs:List V) (lo hi:Option Int):(fI xs lo hi).length <= xs.length:=by
  unfold fI
  rw[List.length_take,List.length_drop]
  omega
def yI (K:W.Frag):V->Option Int->Option Int->Hp->VK->Prop:=fun x lo hi H Q=>∃ a xs,x=.ref a/\SqT K H a xs /\
  ¬ (HT.sIx xs.length 0 lo=0/\HT.sIx xs.length xs.length hi=xs.length)/\∀ p,H p=none->Q (.ref p) (upd H p (.tup (fI xs lo hi)))
theorem vY:SlR X (yI X.K):=by
  intro pins s σ H x v vl vu lo hi sl Q I rx hs pl pu h
  obtain⟨a,xs,rfl,hx,hw,q⟩:=h
  cases rx
  obtain⟨its,r,ht,hz⟩:=I.tuple hx
  have hlen:its.toArray.size=xs.length:=by rw[List.size_toArray];exact r.length.symm
  refine⟨"tuple",_,PyProof.Rows.slot_tuple_getitem.lookup,ht.typeIs,?_⟩
  refine HT.getItem_tuple_cut ht hs pl pu (by rw[hlen];exact hw) ?_ (by rw[hlen];exact hz)
  rw[hlen]
  refine⟨.ref s.heap.objs.size,_,I.laid (t':=s.toks) (o:=.tup (fI xs lo hi)) (fun b ob q=>Heap.get?_push_of_some _ q) (Nat.le_refl _) ?_,rfl,q _ (I.hok.fresh (Nat.le_refl _))⟩
  exact⟨⟨Nat.le_trans (fE xs lo hi) hz,TpN.new _ _ rfl⟩,_,(r.drop (HT.sIx xs.length 0 lo)).take (HT.sIx xs.length xs.length hi - HT.sIx xs.length 0 lo),IsTup.new _ _⟩
noncomputable def xU (K:W.Frag):R2:=fun x y H Q=>∃ a b xs ys,x=.ref a/\y=.ref b/\SqT K H a xs/\SqT K H b ys/\xs ≠ []/\xs.length+ys.length <= sizeLine /\
  (ys=[]->Q (.ref a) H)/\(ys ≠ []->∀ p,H p=none->Q (.ref p) (upd H p (.tup (xs++ys))))
theorem Vals.nil_iff {xs:List V} {us:List Value} (r:Vals xs us):us=[] ↔ xs=[]:=by
  cases r with
  | nil=>simp
  | cons _ _=>simp
theorem ug:OpR X (binaryOp .Add) (xU X.K):=by
  intro pins s σ H x y v u Q I rx ry h
  obtain⟨a,b,xs,ys,rfl,rfl,ha,hb,hx,hz,q1,q2⟩:=h
  cases rx
  cases ry
  obtain⟨its,r1,p1,_⟩:=I.tuple ha
  obtain⟨its2,r2,p2,_⟩:=I.tuple hb
  refine HT.cat_tup p1 p2 (fun z=>hx (r1.nil_iff.mp z)) (fun z=>⟨.ref a,H,I,rfl,q1 (r2.nil_iff.mp z)⟩) (fun z=>?_) (by rw[<- r1.length,<- r2.length];exact hz)
  refine⟨.ref s.heap.objs.size,_,I.laid (t':=s.toks) (o:=.tup (xs++ys)) (fun b ob q=>Heap.get?_push_of_some _ q) (Nat.le_refl _) ?_,rfl,q2 (fun w=>z (r2.nil_iff.mpr w)) _ (I.hok.fresh (Nat.le_refl _))⟩
  exact⟨⟨by rw[List.length_append];exact hz,TpN.new _ _ rfl⟩,_,r1.append r2,IsTup.new _ _⟩
end
end L2
namespace L2
open PySem PySem.Spec PyProof.Rows
noncomputable def ixN (n:Nat) (i:Int):Option Nat:=if 0 <= i then (if i < n then some i.toNat else none) else if -(n:Int) <= i then some (i+n).toNat else none
noncomputable def atI {α:Type} (xs:List α) (i:Int):Option α:=(ixN xs.length i).bind fun j=>xs[j]?
theorem oJ {n:Nat} {i:Int} {j:Nat} (h:ixN n i=some j):seqIndex? i n=some j/\j < n/\-(n:Int) <= i/\i < n:=by
  unfold ixN at h
  by_cases h0:0 <= i
  · rw[if_pos h0] at h
    by_cases h1:i < n
    · rw[if_pos h1] at h
      have e:i.toNat=j:=Option.some.inj h
      exact⟨by rw[seqIndex_of h0 h1,e],by omega,by omega,h1⟩
    · rw[if_neg h1] at h;cases h
  · rw[if_neg h0] at h
    by_cases h1 : -(n:Int) <= i
    · rw[if_pos h1] at h
      have e:(i+n).toNat=j:=Option.some.inj h
      exact⟨by rw[seqIndex_neg (by omega) h1,e],by omega,h1,by omega⟩
    · rw[if_neg h1] at h;cases h
theorem jB {α:Type} {xs:List α} {i:Int} {v:α} (h:atI xs i=some v):∃ j,seqIndex? i xs.length=some j/\xs[j]?=some v/\j < xs.length/\-(xs.length:Int) <= i/\i < xs.length:=by
  unfold atI at h
  cases e:ixN xs.length i with
  | none=>rw[e] at h;cases h
  | some j=>
    rw[e] at h
    obtain⟨h1,h2,h3,h4⟩:=oJ e
    exact⟨j,h1,h,h2,h3,h4⟩
theorem bt {α:Type} {xs:List α} {j:Nat} {v:α} (h:xs[j]?=some v):atI xs (j:Int)=some v:=by
  have hj:j < xs.length:=(List.getElem?_eq_some_iff.mp h).1
  have e:ixN xs.length (j:Int)=some j:=by
    unfold ixN
    rw[if_pos (by omega),if_pos (by omega)];simp
  unfold atI;rw[e];exact h
def pJ (b:Expr):Prop:=∀ o i,subscripted b false o i=operate [o,i] (getItem o i)
def IxR (X:Cx) (r:R2):Prop:=
  ∀ (value slice:Expr) (pins:List (Addr × Obj)) (s:Shared) (σ:St) (H:Hp) (x y:V) (v u:Value) (Q:VK),Inv X pins σ H s->RelV x v->RelV y u->r x y H Q ->
    subscripted slice false v u=operate [v,u] (getItem v u)->wpAny (model X.prog X.w) X.A (subscriptTail value slice v u) (EP X pins σ Q) X.xe s
def MtR (X:Cx) (id:String) (r:V->List V->Hp->VK->Prop):Prop:=
  ∀ (pins:List (Addr × Obj)) (s:Shared) (σ:St) (H:Hp) (x:V) (xs:List V) (v:Value) (us:List Value) (Q:VK),Inv X pins σ H s->RelV x v->Vals xs us->r x xs H Q ->
    wpAny (model X.prog X.w) X.A (call (.builtin id) (v::us)) (EP X pins σ Q) X.xe s
section
variable {X:Cx} {a b:Expr} {ta tb:TE} {pos:Pos}
theorem pe_ix {r:R2} (hr:IxR X r) (ha:PE X a ta) (hb:PE X b tb) (hs:pJ b):PE X (.Subscript a b pos) (tOp r ta tb):=by
  intro pins s σ H Q I h
  exact Subscript_ (ye ha hb I h fun v u s2 x y H2 I2 rx ry q=>hr a b pins s2 σ H2 x y v u Q I2 rx ry q (hs _ _))
noncomputable def yr (K:W.Frag):R2:=fun x y H Q=>∃ p xs i v,x=.ref p/\y=.int i/\SqL K H p xs/\atI xs i=some v/\Q v H
noncomputable def yq (K:W.Frag):R2:=fun x y H Q=>∃ p xs i v,x=.ref p/\y=.int i/\SqT K H p xs/\atI xs i=some v/\Q v H
noncomputable def yM:R2:=fun x y H Q=>∃ z i c,x=.str z/\y=.int i/\z.length <= sizeLine/\atI z.cps.toList i=some c/\Q (.str ⟨#[c]⟩) H
theorem aS:IxR X (yr X.K):=by
  intro value slice pins s σ H x y v u Q I rx ry h hs
  obtain⟨p,xs,i,z,rfl,rfl,hq,he,q⟩:=h
  cases rx
  obtain⟨t,rfl⟩:=ry
  obtain⟨its,r,pl,hz⟩:=I.list hq
  obtain⟨j,h1,h2,h3,h4,h5⟩:=jB he
  obtain⟨w,ew,rw'⟩:=r.get h2
  have hl:=r.length
  have hn:=fZ
  have fin:EP X pins σ Q w s:=⟨z,H,I,rw',q⟩
  by_cases h0:0 <= i
  · have hj:i.toNat=j:=by
      rw[seqIndex_of h0 h5] at h1
      exact Option.some.inj h1
    exact item_listR pl.isList h0 (by omega) (by rw[hj];simpa using ew) fin hs
  · have hj:(i+(its.toArray.size:Int)).toNat=j:=by
      rw[seqIndex_neg (by omega) h4] at h1
      rw[List.size_toArray,<- hl]
      exact Option.some.inj h1
    exact subscriptTail_builtinR (x:=w) pl.isList.typeIs slot_list_getitem.lookup
      (wpAny_getItem_list_neg (Q:=fun r s'=>r=w/\EP X pins σ Q r s') pl.isList (by omega) (by rw[List.size_toArray] <;> omega) (by omega) (by rw[hj];simpa using ew) ⟨rfl,fin⟩) hs
theorem ar:IxR X (yq X.K):=by
  intro value slice pins s σ H x y v u Q I rx ry h hs
  obtain⟨p,xs,i,z,rfl,rfl,hq,he,q⟩:=h
  cases rx
  obtain⟨t,rfl⟩:=ry
  obtain⟨its,r,pl,hz⟩:=I.tuple hq
  obtain⟨j,h1,h2,h3,h4,h5⟩:=jB he
  obtain⟨w,ew,rw'⟩:=r.get h2
  have hl:=r.length
  have hn:=fZ
  have fin:EP X pins σ Q w s:=⟨z,H,I,rw',q⟩
  exact subscriptTail_builtinR (x:=w) pl.typeIs slot_tuple_getitem.lookup
    (getItem_tuple (j:=j) (Q:=fun r s'=>r=w/\EP X pins σ Q r s') pl (by omega) (by omega) (by rw[List.size_toArray,<- hl];exact h1) (by simpa using ew) ⟨rfl,fin⟩) hs
theorem rX:IxR X yM:=by
  intro value slice pins s σ H x y v u Q I rx ry h hs
  obtain⟨z,i,c,rfl,rfl,hz,he,q⟩:=h
  obtain⟨t,rfl⟩:=rx
  obtain⟨t',rfl⟩:=ry
  obtain⟨j,h1,h2,h3,h4,h5⟩:=jB he
  have hl:z.cps.toList.length=z.length:=by simp[Str.length]
  rw[hl] at h1 h4 h5
  have hn:=fZ
  exact tail_any (typeIs_str s z t) slot_str_getitem.lookup (getItem_str (c:=c) (by
    have e1:decide (i < -(2 ^ 63:Int))=false:=decide_eq_false (by omega)
    have e2:decide (i >= 2 ^ 63)=false:=decide_eq_false (by omega)
    rw[e1,e2,Bool.or_false]) (by rw[h1];simpa using h2) ⟨.str ⟨#[c]⟩,H,I.tok _,⟨_,rfl⟩,q⟩) hs
theorem md (its:List Value) (n j:Nat) (u:Value):Obj.mapSeq (·.setIfInBounds j u) { cls:=.type "list",data:=.seq its.toArray n }={ cls:=.type "list",data:=.seq (its.set j u).toArray n }:=by
  simp[Obj.mapSeq]
theorem Inv.lst {pins:List (Addr × Obj)} {σ:St} {H:Hp} {s:Shared} {p:Addr} {xs:List V} (I:Inv X pins σ H s) (h:H p=some (.lst xs)) :
    ∃ (its:List Value) (n:Nat),Vals xs its/\s.heap.get? p=some { cls:=.type "list",data:=.seq its.toArray n }/\xs.length <= sizeLine:=by
  obtain⟨z,its,n,r,e⟩:=I.hok p _ h
  exact⟨its,n,r,e,z⟩
theorem Inv.lstUpd {pins:List (Addr × Obj)} {σ:St} {H:Hp} {s:Shared} {p:Addr} {xs ys:List V} {its its':List Value} {n n':Nat} {f:Obj->Obj} (I:Inv X pins σ H s) (h:H p=some (.lst xs))
    (ho:s.heap.get? p=some { cls:=.type "list",data:=.seq its.toArray n }) (hf:f { cls:=.type "list",data:=.seq its.toArray n }={ cls:=.type "list",data:=.seq its'.toArray n' }) (r:Vals ys its') (hz:ys.length <= sizeLine) (t:Nat) :
    Inv X pins σ (upd H p (.lst ys)) { s with heap:=s.heap.update p f,toks:=t }:=by
  have e:(s.heap.update p f).get? p=some { cls:=.type "list",data:=.seq its'.toArray n' }:=by
    rw[Heap.get?_update_self f ho (by rw[hf] <;> rfl),hf]
  refine I.write (x:=p) (e:=p) (by rw[h];trivial) (.inl rfl) (fun b u hb q=>(Heap.get?_update_other _ _ (Ne.symm hb)).trans q) ⟨_,e⟩ ?_
  exact⟨hz,its',n',r,e⟩
def xT:V->V->V->Hp->(Hp->Prop)->Prop:=fun o i v H Q=>∃ p xs k j,o=.ref p/\i=.int k/\H p=some (.lst xs)/\ixN xs.length k=some j/\Q (upd H p (.lst (xs.set j v)))
theorem pY:yh X xT:=by
  intro pins s σ H o i v ov iv u Q I ro ri rv h
  obtain⟨p,xs,k,j,rfl,rfl,hp,hj,q⟩:=h
  cases ro
  obtain⟨t,rfl⟩:=ri
  obtain⟨its,n,r,ho,hz⟩:=I.lst hp
  obtain⟨h1,h2,h3,h4⟩:=oJ hj
  have hl:=r.length
  have hn:=fZ
  have I':Inv X pins σ (upd H p (.lst (xs.set j v))) { s with heap:=s.heap.update p (Obj.mapSeq (·.setIfInBounds j u)) }:=
    I.lstUpd hp ho (md its n j u) (r.set rv j) (by rw[List.length_set];exact hz) s.toks
  by_cases h0:0 <= k
  · have hk:k.toNat=j:=by
      rw[seqIndex_of h0 h4] at h1
      exact Option.some.inj h1
    exact PySem.W.ki_setAt ho h0 (by omega) (by rw[List.size_toArray,<- hl];exact h4) (by rw[hk];exact⟨_,I',q⟩)
  · have hk:(k+(its.toArray.size:Int)).toNat=j:=by
      rw[seqIndex_neg (by omega) h3] at h1
      rw[List.size_toArray,<- hl]
      exact Option.some.inj h1
    exact PySem.W.ki_setBack ho (by omega) (by rw[List.size_toArray,<- hl];exact h3) (by omega) (by rw[hk];exact⟨_,I',q⟩)
theorem ii (lo hi:Option Int) (n:Nat):(sliceBounds lo hi none n).1=((HT.sIx n 0 lo:Nat):Int)/\(sliceBounds lo hi none n).2.1=((HT.sIx n n hi:Nat):Int)/\(sliceBounds lo hi none n).2.2=1:=by
  refine⟨?_,?_,rfl⟩
  · cases lo with
    | none=>simp[sliceBounds,HT.sIx]
    | some i=>
      simp only[sliceBounds,HT.sIx,Option.getD_none,show (1:Int) > 0 by decide,if_true]
      by_cases h:i < 0
      · simp only[h,if_true] <;> omega
      · simp only[h,if_false] <;> omega
  · cases hi with
    | none=>simp[sliceBounds,HT.sIx]
    | some i=>
      simp only[sliceBounds,HT.sIx,Option.getD_none,show (1:Int) > 0 by decide,if_true]
      by_cases h:i < 0
      · simp only[h,if_true] <;> omega
      · simp only[h,if_false] <;> omega
theorem gu (its:List Value) (lo hi:Option Int):slicePick its.toArray lo hi none=((its.drop (HT.sIx its.length 0 lo)).take (HT.sIx its.length its.length hi - HT.sIx its.length 0 lo)).toArray:=by
  obtain⟨h1,h2,h3⟩:=ii lo hi its.toArray.size
  unfold slicePick
  rw[h1,h2,h3]
  simp only[sliceRange_one,pick_run,List.size_toArray] <;> rfl
def yK (K:W.Frag):V->Option Int->Option Int->Hp->VK->Prop:=fun x lo hi H Q=>∃ a xs,x=.ref a/\SqL K H a xs/\∀ p,H p=none->Q (.ref p) (upd H p (.lst (fI xs lo hi)))
theorem cI:SlR X (yK X.K):=by
  intro pins s σ H x v vl vu lo hi sl Q I rx hs pl pu h
  obtain⟨a,xs,rfl,hx,q⟩:=h
  cases rx
  obtain⟨its,r,ht,hz⟩:=I.list hx
  have hlen:=r.length
  refine⟨"list",_,slot_list_getitem.lookup,ht.isList.typeIs,?_⟩
  refine wpAny_getItem_list_slice ht.isList hs pl pu .none (by simp) ?_ (by rw[List.size_toArray] <;> omega)
  rw[gu,<- hlen]
  refine⟨.ref s.heap.objs.size,_,I.laid (t':=s.toks) (o:=.lst (fI xs lo hi)) (fun b ob q=>Heap.get?_push_of_some _ q) (Nat.le_refl _) ?_,rfl,q _ (I.hok.fresh (Nat.le_refl _))⟩
  exact⟨Nat.le_trans (fE xs lo hi) hz,_,0,(r.drop (HT.sIx xs.length 0 lo)).take (HT.sIx xs.length xs.length hi - HT.sIx xs.length 0 lo),Heap.get?_push_size _ rfl⟩
noncomputable def fj:V->Bool
  | .non=>true
  | .bl _=>true
  | .int _=>true
  | .str _=>true
  | _=>false
noncomputable def eqV:V->V->Bool
  | .non,.non=>true
  | .bl a,.bl b=>a == b
  | .bl a,.int b=>(if a then 1 else 0) == b
  | .int a,.bl b=>a == (if b then 1 else 0)
  | .int a,.int b=>a == b
  | .str a,.str b=>a == b
  | _,_=>false
theorem sr {A:Around} {s:Shared} {y x:V} {u v:Value} (ry:RelV y u) (rx:RelV x v) (fy:fj y=true) (fx:fj x=true):SeqAt.EqAt A s u v (eqV y x):=by
  cases y with
  | non=>
    cases ry
    cases x with
    | non=>cases rx;exact SeqAt.EqAt.same _
    | bl b=>cases rx;exact SeqAt.EqAt.none_bool b
    | int b=>obtain⟨t,rfl⟩:=rx;exact SeqAt.EqAt.none_int b t
    | str b=>obtain⟨t,rfl⟩:=rx;exact SeqAt.EqAt.none_str b t
    | _=>exact absurd (show false=true from fx) Bool.false_ne_true
  | bl a=>
    cases ry
    cases x with
    | non=>cases rx;exact SeqAt.EqAt.bool_none a
    | bl b=>cases rx;exact SeqAt.EqAt.bool_bool a b
    | int b=>obtain⟨t,rfl⟩:=rx;exact SeqAt.EqAt.bool_int a b t
    | str b=>obtain⟨t,rfl⟩:=rx;exact SeqAt.EqAt.bool_str a b t
    | _=>exact absurd (show false=true from fx) Bool.false_ne_true
  | int a=>
    obtain⟨t',rfl⟩:=ry
    cases x with
    | non=>cases rx;exact SeqAt.EqAt.int_none a t'
    | bl b=>cases rx;exact SeqAt.EqAt.int_bool a t' b
    | int b=>obtain⟨t,rfl⟩:=rx;exact SeqAt.EqAt.int_int a t' b t
    | str b=>obtain⟨t,rfl⟩:=rx;exact SeqAt.EqAt.int_str a t' b t
    | _=>exact absurd (show false=true from fx) Bool.false_ne_true
  | str a=>
    obtain⟨t',rfl⟩:=ry
    cases x with
    | non=>cases rx;exact SeqAt.EqAt.str_none a t'
    | bl b=>cases rx;exact SeqAt.EqAt.str_bool a t' b
    | int b=>obtain⟨t,rfl⟩:=rx;exact SeqAt.EqAt.str_int a t' b t
    | str b=>obtain⟨t,rfl⟩:=rx;exact SeqAt.EqAt.str_str a t' b t
    | _=>exact absurd (show false=true from fx) Bool.false_ne_true
  | _=>exact absurd (show false=true from fy) Bool.false_ne_true
noncomputable def eqU (x:V) (u:Value):Bool:=match u with
  | .none=>eqV .non x
  | .bool b=>eqV (.bl b) x
  | .int i _=>eqV (.int i) x
  | .str z _=>eqV (.str z) x
  | _=>false
theorem sq {x y:V} {u:Value} (r:RelV y u) (f:fj y=true):eqU x u=eqV y x:=by
  cases y with
  | non=>cases r;rfl
  | bl b=>cases r;rfl
  | int i=>obtain⟨t,rfl⟩:=r;rfl
  | str z=>obtain⟨t,rfl⟩:=r;rfl
  | _=>exact absurd (show false=true from f) Bool.false_ne_true
theorem jC {x:V}:∀ {xs:List V} {us:List Value},Vals xs us->xs.all fj=true->us.any (eqU x)=xs.any fun y=>eqV y x
  | _,_,.nil,_=>rfl
  | y::xs,u::us,.cons r t,f=>by
    rw[List.all_cons,Bool.and_eq_true] at f
    rw[List.any_cons,List.any_cons,sq r f.1,jC t f.2]
theorem gI {A:Around} {s:Shared} {x:V} {v:Value} (rx:RelV x v) (fx:fj x=true):∀ {xs:List V} {us:List Value},Vals xs us->xs.all fj=true->∀ u ∈ us,SeqAt.EqAt A s u v (eqU x u)
  | _,_,.nil,_=>fun u hu=>by cases hu
  | y::xs,u::us,.cons r t,f=>fun u' hu=>by
    rw[List.all_cons,Bool.and_eq_true] at f
    rcases List.mem_cons.mp hu with rfl | hu
    · rw[sq r f.1];exact sr r rx f.1 fx
    · exact gI rx fx t f.2 u' hu
noncomputable def inV (x:V) (xs:List V):Bool:=xs.any fun y=>eqV y x
noncomputable def rIn (K:W.Frag) (neg:Bool):R2:=fun x y H Q=>∃ p xs,y=.ref p/\(SqL K H p xs\/SqT K H p xs)/\fj x=true/\xs.all fj=true/\Q (.bl (if neg then !inV x xs else inV x xs)) H
theorem dc:OpR X (compareOp .NotIn) (rIn X.K true):=by
  intro pins s σ H x y v u Q I rx ry h
  obtain⟨p,xs,rfl,hq,fx,fs,q⟩:=h
  cases ry
  rcases hq with hq | hq
  · obtain⟨its,r,pl,hz⟩:=I.list hq
    refine SeqAt.notIn_listAt (eqU x) pl.isList (fun w hw=>gI rx fx r fs w (by simpa using hw)) ⟨.bl _,H,I,rfl,?_⟩
    rw[show its.toArray.any (eqU x)=its.any (eqU x) by simp,jC r fs]
    exact q
  · obtain⟨its,r,pl,hz⟩:=I.tuple hq
    refine SeqAt.notIn_tupleAt (eqU x) pl (fun w hw=>gI rx fx r fs w (by simpa using hw)) ⟨.bl _,H,I,rfl,?_⟩
    rw[show its.toArray.any (eqU x)=its.any (eqU x) by simp,jC r fs]
    exact q
theorem call_len_seq:CallR X (.builtin "len") (fun xs H Q=>∃ p ys,xs=[.ref p]/\(SqL X.K H p ys\/SqT X.K H p ys)/\Q (.int ys.length) H):=by
  intro pins s σ H xs us Q I r h
  obtain⟨p,ys,rfl,hq,q⟩:=h
  obtain⟨u,rfl,rx⟩:=ky r
  cases rx
  have hn:=fZ
  rcases hq with hq | hq
  · obtain⟨its,r',pl,hz⟩:=I.list hq
    have hlen:=r'.length
    exact Calls.call_len_list pl.isList (by simp only[List.size_toArray] <;> omega) ⟨.int ys.length,H,I.tok _,⟨s.toks+1,by rw[List.size_toArray,hlen]⟩,q⟩
  · obtain⟨its,r',pl,hz⟩:=I.tuple hq
    have hlen:=r'.length
    exact len_tuple pl (by simp only[List.size_toArray] <;> omega) ⟨.int ys.length,H,I.tok _,⟨s.toks+1,by rw[List.size_toArray,hlen]⟩,q⟩
theorem bO:CallR X (.builtin "len") (fun xs H Q=>∃ z,xs=[.str z]/\z.length <= sizeLine/\Q (.int z.length) H):=by
  intro pins s σ H xs us Q I r h
  obtain⟨z,rfl,hz,q⟩:=h
  obtain⟨u,rfl,t,rfl⟩:=ky r
  have hn:=fZ
  exact len_str (by omega) ⟨.int z.length,H,I.tok _,⟨_,rfl⟩,q⟩
theorem CallR.or {f:Value} {r r':List V->Hp->VK->Prop} (h:CallR X f r) (h':CallR X f r'):CallR X f (fun xs H Q=>r xs H Q\/r' xs H Q):=by
  intro pins s σ H xs us Q I rs q
  rcases q with q | q
  · exact h pins s σ H xs us Q I rs q
  · exact h' pins s σ H xs us Q I rs q
theorem aT:CallR X (.type "tuple") (fun xs H Q=>∃ p ys,xs=[.ref p]/\((SqL X.K H p ys/\∀ l,H l=none->Q (.ref l) (upd H l (.tup ys)))\/(SqT X.K H p ys/\Q (.ref p) H))):=by
  intro pins s σ H xs us Q I r h
  obtain⟨p,ys,rfl,h⟩:=h
  obtain⟨u,rfl,rx⟩:=ky r
  cases rx
  rcases h with ⟨hq,q⟩ | ⟨hq,q⟩
  · obtain⟨its,r',pl,hz⟩:=I.list hq
    have hlen:=r'.length
    refine call_tuple_list pl.isList (fun h' kp=>?_) (by simp only[List.size_toArray] <;> omega)
    have I1:Inv X pins σ H { s with heap:=h' }:=I.kept (t':=s.toks) kp
    have I2:Inv X pins σ (upd H h'.objs.size (.tup ys)) { s with heap:=h'.push { cls:=.type "tuple",data:=.seq its.toArray } }:=
      I1.laid (t':=s.toks) (fun b o e=>Heap.get?_push_of_some _ e) (Nat.le_refl _) (show ObjOk X.prog X.w _ _ _ (.tup ys) from ⟨⟨hz,TpN.new _ _ rfl⟩,its,r',IsTup.new _ _⟩)
    exact⟨.ref h'.objs.size,_,I2,rfl,q _ (I1.hok.fresh (Nat.le_refl _))⟩
  · obtain⟨its,r',pl,hz⟩:=I.tuple hq
    exact call_tuple_same pl ⟨.ref p,H,I,rfl,q⟩
def tyV (K:W.Frag) (T:String) (x:V) (H:Hp):Prop:=match x with
  | .str _=>T = "str"
  | .int _=>T = "int"
  | .ref p=>(T = "list"/\∃ xs,SqL K H p xs)\/(T = "tuple"/\∃ o,K.lookup p=some o/\o.cls=.type "tuple"/\o.dict=none) \/
      (T = "dict"/\((∃ kvs,H p=some (.dK kvs))\/∃ kvs,H p=some (.dT kvs)))\/(T = "set"/\∃ S n,H p=some (.set S n))
  | _=>False
theorem rJ {pins:List (Addr × Obj)} {σ:St} {H:Hp} {s:Shared} {T:String} {x:V} {v:Value} (I:Inv X pins σ H s) (r:RelV x v) (ty:tyV X.K T x H) :
    s.TypeIs v T/\∀ a,v=.ref a->∃ ob,s.heap.get? a=some ob/\ob.dict=none:=by
  cases x with
  | str z=>
    obtain⟨t,rfl⟩:=r
    cases (show T = "str" from ty)
    exact⟨typeIs_str s z t,fun _ e=>nomatch e⟩
  | int i=>
    obtain⟨t,rfl⟩:=r
    cases (show T = "int" from ty)
    exact⟨typeIs_int s i t,fun _ e=>nomatch e⟩
  | ref p=>
    cases r
    rcases ty with ⟨rfl,xs,hq⟩ | ⟨rfl,o,hk,hc,hd⟩ | ⟨rfl,hk⟩ | ⟨rfl,S,n,hk⟩
    · obtain⟨its,_,pl,_⟩:=I.list hq
      refine⟨pl.isList.typeIs,fun a e=>?_⟩
      cases e
      obtain⟨o,n,e,c,hd,_⟩:=pl
      exact⟨o,e,hd⟩
    · refine⟨⟨o,I.kIn p o hk,hc⟩,fun a e=>?_⟩
      cases e
      exact⟨o,I.kIn _ o hk,hd⟩
    · have z:∃ o,s.heap.get? p=some o/\o.ExactDict:=by
        rcases hk with ⟨kvs,hk⟩ | ⟨kvs,hk⟩
        · obtain⟨_,_,_,_,o,_,_,e,ex,_⟩:=I.hok p _ hk
          exact⟨o,e,ex⟩
        · obtain⟨_,_,_,_,o,_,_,e,ex,_⟩:=I.hok p _ hk
          exact⟨o,e,ex⟩
      obtain⟨o,e,ex⟩:=z
      refine⟨⟨o,e,ex.1⟩,fun a e2=>?_⟩
      cases e2
      exact⟨o,e,ex.2.1⟩
    · obtain⟨o,_,_,_,e,ex,_⟩:=I.hok p _ hk
      refine⟨⟨o,e,ex.1⟩,fun a e2=>?_⟩
      cases e2
      exact⟨o,e,ex.2.1⟩
  | _=>exact False.elim ty
def tBM0 (K:W.Frag) (T:String) (r:V->List V->Hp->VK->Prop) (to:TE):TE:=fun σ H Q=>to σ H fun x H1=>tyV K T x H1/\r x [] H1 Q
def tBM (K:W.Frag) (T:String) (r:V->List V->Hp->VK->Prop) (to:TE) (t:TA):TE:=fun σ H Q=>to σ H fun x H1=>tyV K T x H1/\t σ H1 fun xs H2=>r x xs H2 Q
variable {o e:Expr} {es:List Expr} {to:TE} {t:TA} {name:Str} {apos cpos:Pos} {T id:String} {r:V->List V->Hp->VK->Prop}
theorem pe_bm0 (pa:PlainAttrs T) (slot:Slot T name id) (hty:typeOf (.builtin id)=pure (.type "method_descriptor")) (hm:MtR X id r) (ho:PE X o to)
    (hbase:attributeBase o name X.env (eval o X.env)=eval o X.env:=by rfl) (hline:(apos.endLine == cpos.line)=true:=by rfl):PE X (.Call (.Attribute o name apos) [] [] cpos) (tBM0 X.K T r to):=by
  intro pins s σ H Q I h
  refine wpAny_Call_method0_late hbase hline (thn (ho pins s σ H _ I h) fun v s1 ⟨x,H1,I1,r1,ty,q1⟩=>?_)
  obtain⟨h1,h2⟩:=rJ I1 r1 ty
  exact⟨T,id,pa,slot,hty,h1,h2,Calls.callWith_builtin rfl (PySem.evalArgs_none (hm pins s1 σ H1 x [] v [] Q I1 r1 .nil q1))⟩
theorem pe_bm (pa:PlainAttrs T) (slot:Slot T name id) (hty:typeOf (.builtin id)=pure (.type "method_descriptor")) (hm:MtR X id r) (ho:PE X o to) (ha:PA X (e::es) t)
    (hbase:attributeBase o name X.env (eval o X.env)=eval o X.env:=by rfl)
    (hfew:((backTo cpos (starEach (e::es) X.env)).all (fun x=>!x.1) && (backToKw cpos (keywordEach [] X.env)).all (fun x=>x.1.isSome)
      && decide ((e::es).length+([]:List Keyword).length+(if ([]:List Keyword).isEmpty then 0 else 1) < 30))=true:=by rfl)
    (hline:(apos.endLine == cpos.line)=true:=by rfl) (hs:starEach (e::es) X.env=(false,eval e X.env)::starEach es X.env:=by rfl) (hplain:(backTo cpos (starEach es X.env)).any (·.1)=false:=by rfl) :
    PE X (.Call (.Attribute o name apos) (e::es) [] cpos) (tBM X.K T r to t):=by
  intro pins s σ H Q I h
  refine wpAny_Call_method_late hbase hfew hline rfl (thn (ho pins s σ H _ I h) fun v s1 ⟨x,H1,I1,r1,ty,q1⟩=>?_)
  obtain⟨h1,h2⟩:=rJ I1 r1 ty
  refine⟨T,id,pa,slot,hty,h1,h2,?_⟩
  have hA:=ha cpos pins s1 σ H1 _ I1 q1
  rw[hs] at hA ⊢
  refine Calls.callWith_builtin (by show (false || (backTo cpos (starEach es X.env)).any (·.1))=false;rw[hplain] <;> rfl) (Calls.evalArgs_plain ?_)
  exact thn hA fun us s2 ⟨vs,H2,I2,r2,q2⟩=>hm pins s2 σ H2 x vs v us Q I2 r1 r2 q2
end
end L2
namespace L2
open PySem PySem.Spec PyProof.Rows
def MtM (X:Cx) (id:String) (r:V->List V->Hp->VK->Prop):Prop:=
  ∀ (pins:List (Addr × Obj)) (s:Shared) (σ:St) (H:Hp) (x:V) (xs:List V) (v:Value) (us:List Value) (Q:VK),Inv X pins σ H s->RelV x v->Vals xs us->r x xs H Q ->
    wpAny (model X.prog X.w) X.A (call (.builtin id) (v::us)) (EP X pins σ Q) X.xe s
theorem Vals.one:∀ {x:V} {us:List Value},Vals [x] us->∃ u,us=[u]/\RelV x u
  | _,_,.cons r .nil=>⟨_,rfl,r⟩
theorem Vals.zero:∀ {us:List Value},Vals [] us->us=[]
  | _,.nil=>rfl
theorem Vals.dropLast {xs:List V} {us:List Value} (h:Vals xs us):Vals xs.dropLast us.dropLast:=by
  induction h with
  | nil=>exact .nil
  | cons r t ih=>
    cases t with
    | nil=>exact .nil
    | cons q t'=>exact .cons r ih
theorem Vals.reverse {xs:List V} {us:List Value} (h:Vals xs us):Vals xs.reverse us.reverse:=by
  induction h with
  | nil=>exact .nil
  | cons r t ih=>rw[List.reverse_cons,List.reverse_cons];exact Vals.append ih (.cons r .nil)
theorem mi {α:Type} (l:List α):l.eraseIdx (l.length - 1)=l.dropLast:=by
  induction l with
  | nil=>rfl
  | cons a r ih=>
    cases r with
    | nil=>rfl
    | cons b r=>
      have e:(a::b::r).length - 1=((b::r).length - 1)+1:=by
        have h1:(a::b::r).length=r.length+2:=rfl
        have h2:(b::r).length=r.length+1:=rfl
        omega
      rw[e,List.eraseIdx_cons_succ,ih]
      all_goals rfl
section
variable {X:Cx} {pins:List (Addr × Obj)} {σ:St} {H:Hp} {s:Shared} {l b:Addr} {xs ys zs:List V}
theorem Inv.lset {its its':List Value} {n:Nat} {f:Array Value->Array Value} {t':Nat} (I:Inv X pins σ H s) (hH:H l=some (.lst xs))
    (e:s.heap.get? l=some { cls:=.type "list",data:=.seq its.toArray n }) (hf:f its.toArray=its'.toArray) (hv:Vals ys its') (hz:ys.length <= sizeLine) :
    Inv X pins σ (upd H l (.lst ys)) { s with heap:=s.heap.update l (Obj.mapSeq f),toks:=t' }:=by
  have q:=PySem.IsL.update e f
  rw[hf] at q
  refine I.write (x:=l) (e:=l) (by rw[hH];exact trivial) (.inl rfl) (fun b' u hb hu=>(Heap.get?_update_other s.heap (Obj.mapSeq f) (Ne.symm hb)).trans hu) ⟨_,q⟩ ?_
  exact⟨hz,its',_,hv,q⟩
theorem Inv.lnew {its:List Value} {t':Nat} (I:Inv X pins σ H s) (hv:Vals ys its) (hz:ys.length <= sizeLine) :
    Inv X pins σ (upd H s.heap.objs.size (.lst ys)) { s with heap:=s.heap.push { cls:=.type "list",data:=.seq its.toArray },toks:=t' }:=
  I.laid (fun _ _ q=>Heap.get?_push_of_some _ q) (Nat.le_refl _) ⟨hz,its,0,hv,Heap.get?_push_size _ rfl⟩
theorem Inv.fresh (I:Inv X pins σ H s):H s.heap.objs.size=none:=I.hok.fresh (Nat.le_refl _)
theorem Inv.lstM (I:Inv X pins σ H s) (hH:H l=some (.lst xs)):xs.length <= sizeLine/\∃ (its:List Value) (n:Nat),Vals xs its/\xs.length=its.length/\s.heap.get? l=some { cls:=.type "list",data:=.seq its.toArray n }:=by
  obtain⟨z,its,n,r,e⟩:=I.hok l _ hH
  exact⟨z,its,n,r,r.length,e⟩
theorem qN {n:Nat} (h:n <= sizeLine):Builtin.List.listTooLong n=false:=by
  unfold Builtin.List.listTooLong
  exact decide_eq_false (by omega)
end
section
variable {X:Cx}
def tS:V->List V->Hp->VK->Prop:=fun x vs H Q=>∃ l xs y,x=.ref l/\vs=[y]/\H l=some (.lst xs)/\xs.length < sizeLine/\Q .non (upd H l (.lst (xs++[y])))
theorem bg:MtM X "list.append" tS:=by
  intro pins s σ H x vs v us Q I rx rv h
  obtain⟨l,xs,y,rfl,rfl,hH,hz,q⟩:=h
  cases rx
  obtain⟨u,rfl,ru⟩:=rv.one
  obtain⟨z,its,n,r,hl,e⟩:=I.lstM hH
  refine call_meets F.slot_list_append ⟨_,e,rfl⟩ F.entry_list_append (F.args_list_append_2 _ _) (PySem.list_append l its.toArray n u (by rw[List.size_toArray];omega)) ⟨e,?_⟩
  refine⟨.non,_,I.lset (its':=its++[u]) hH e (by simp) (r.append (.cons ru .nil)) ?_,rfl,q⟩
  rw[List.length_append,List.length_singleton]
  omega
def tQ:V->List V->Hp->VK->Prop:=fun x vs H Q=>∃ l b xs zs,x=.ref l/\vs=[.ref b]/\H l=some (.lst xs)/\H b=some (.lst zs)/\xs.length+zs.length <= sizeLine/\Q .non (upd H l (.lst (xs++zs)))
theorem iz:MtM X "list.extend" tQ:=by
  intro pins s σ H x vs v us Q I rx rv h
  obtain⟨l,b,xs,zs,rfl,rfl,hH,hB,hz,q⟩:=h
  cases rx
  obtain⟨u,rfl,ru⟩:=rv.one
  cases ru
  obtain⟨z,its,n,r,hl,e⟩:=I.lstM hH
  obtain⟨z2,its2,n2,r2,hl2,e2⟩:=I.lstM hB
  have hsz:its.toArray.size+its2.toArray.size <= sizeLine:=by rw[List.size_toArray,List.size_toArray];omega
  have hlong:¬ (!its.toArray.isEmpty && Builtin.List.listTooLong (its.toArray.size+its2.toArray.size))=true:=by
    rw[qN hsz,Bool.and_false]
    exact Bool.false_ne_true
  refine call_meets F.slot_list_extend ⟨_,e,rfl⟩ F.entry_list_extend (F.args_list_extend_2 _ _)
    (AutoSeq1.list_extend_list_list_0 l its.toArray n b its2.toArray n2 hlong (by rw[List.size_toArray];omega) (by omega)) ⟨e,e2,?_⟩
  refine⟨.non,_,I.lset (its':=its++its2) hH e (by simp) (r.append r2) ?_,rfl,q⟩
  rw[List.length_append]
  omega
def yL:V->List V->Hp->VK->Prop:=fun x vs H Q=>∃ l xs y,x=.ref l/\vs=[]/\H l=some (.lst xs)/\xs[xs.length - 1]?=some y/\Q y (upd H l (.lst xs.dropLast))
theorem cN:MtM X "list.pop" yL:=by
  intro pins s σ H x vs v us Q I rx rv h
  obtain⟨l,xs,y,rfl,rfl,hH,hy,q⟩:=h
  cases rx
  have hus:=rv.zero
  subst hus
  obtain⟨z,its,n,r,hl,e⟩:=I.lstM hH
  obtain⟨u,hu,ru⟩:=r.get hy
  have hy':its.toArray[its.toArray.size - 1]?=some u:=by
    show its.toArray[its.length - 1]?=some u
    rw[<- Array.getElem?_toList,<- hl]
    exact hu
  refine call_meets F.slot_list_pop ⟨_,e,rfl⟩ F.entry_list_pop (F.args_list_pop_1 _) (MeetsSeq.list_pop_last l its.toArray n u hy' (by rw[List.size_toArray];omega)) ⟨e,?_⟩
  refine⟨y,_,I.lset (its':=its.dropLast) hH e ?_ r.dropLast ?_,ru,q⟩
  · show its.toArray.eraseIdxIfInBounds (its.toArray.size - 1)=its.dropLast.toArray
    rw[List.size_toArray,List.eraseIdxIfInBounds_toArray,mi]
  · rw[List.length_dropLast]
    omega
noncomputable def yN:R2:=fun x y H Q=>∃ l b xs zs,x=.ref l/\y=.ref b/\H l=some (.lst xs)/\H b=some (.lst zs)/\xs.length+zs.length <= sizeLine/\∀ p,H p=none->Q (.ref p) (upd H p (.lst (xs++zs)))
theorem dY:OpR X (binaryOp .Add) yN:=by
  intro pins s σ H x y v u Q I rx ry h
  obtain⟨l,b,xs,zs,rfl,rfl,hH,hB,hz,q⟩:=h
  cases rx
  cases ry
  obtain⟨z,its,n,r,hl,e⟩:=I.lstM hH
  obtain⟨z2,its2,n2,r2,hl2,e2⟩:=I.lstM hB
  refine PySem.P.add_list e e2 ?_ (by rw[List.size_toArray,List.size_toArray];omega)
  have ea:its.toArray++its2.toArray=(its++its2).toArray:=by simp
  rw[ea]
  exact⟨.ref _,_,I.lnew (t':=s.toks) (r.append r2) (by rw[List.length_append];omega),rfl,q _ I.fresh⟩
end
section
variable {prog:Program} {w:World} {A:Around} {E:Value->Shared->Prop} {s:Shared}
end
section
variable {X:Cx}
end
end L2
namespace Att
open PySem PySem.W PySem.Calls PyProof.Rows
theorem fh {P:Params} {h:Heap}:∀ (ns:List Int) (vs:List Value),WellAll P h vs (ns.map WData.int)->IntsAre vs ns:=by
  intro ns
  induction ns with
  | nil=>
    intro vs w
    rw[List.map_nil] at w
    cases w
    exact .nil
  | cons n ns ih=>
    intro vs w
    rw[List.map_cons] at w
    cases w with
    | cons a b=>
      cases a
      exact .cons _ _ (ih _ b)
theorem nv {l:OpenLaw} {n:Nat} (hn:l.most=some n) {P:Params} {h:Heap} {args:List WData} {cY:List Value}
    (hpre:l.row.toRowW.claim.pre args=true) (hwl:WellAll P h cY args) :
    ∃ a vs ns,cY=[Value.ref a]/\args=[WData.list (ns.map WData.int)]/\h.get? a=some { cls:=.type "list",data:=.seq vs.toArray }/\IntsAre vs ns/\ns.length <= n:=by
  have hsh:WShape.hasAll [] args [.list .int]=true:=(pre_splitW hpre).1
  have hc:l.pre.holds [] { args:=args }=true:=(pre_splitW hpre).2
  obtain⟨d,r,rfl,h1,h2⟩:=hasAllW_cons hsh
  obtain rfl:=hasAllW_nil h2
  obtain⟨xs,rfl,h3⟩:=hasW_list h1
  obtain⟨ns,rfl⟩:=items_int h3
  have hlen:ns.length <= n:=by
    unfold OpenLaw.pre at hc
    have h4:(WTm.not (.lt (.lit (.int (n:Int))) (.len (.arg 0)))).holds [] { args:=[.list (ns.map .int)] }=true:=by
      have h4:=(holds_andW hc).1
      rw[hn] at h4
      exact h4
    have h5:=condW_of h4 (w_not (w_lt w_lit (w_len_list (w_arg rfl))))
    rw[List.length_map] at h5
    refine Nat.le_of_not_lt fun q=>?_
    have q':(n:Int) < ((ns.length:Nat):Int):=by omega
    first
      | (rw[decide_eq_true q'] at h5;exact absurd h5 (by decide))
      | (simp at h5;omega)
  cases hwl with
  | cons w1 w2=>
    cases w2
    cases w1 with
    | list ho hall=>exact⟨_,_,ns,rfl,rfl,ho,fh ns _ hall,hlen⟩
theorem nV (l:OpenLaw) (args:List WData):l.row.toRowW.claim.post args (.bool true) args=true:=
  postW_of (r:=l.row.toRowW) (X:=(true == true))
    (show WShape.has [] (.bool true) .bool=true by first | rfl | decide | simp[WShape.has,WShape.arms,WShape.armsAll])
    (show (WTm.eq .res (.lit (.bool true))).value [] { args:=args,res:=some (.bool true),after:=args }=some (.bool (true == true)) from w_eq_bool (w_res rfl) w_lit) rfl
theorem attach_call {l:OpenLaw} {n:Nat} {q:Program} {loose:List Str} {XP:(Str->Option Value)->Heap->Prop} {YP:World->Heap->Prop} {d:DefRec}
    (hn:l.most=some n) (hdf:d.params.defaults=[])
    (call:∀ (w:World) (s₀ s₁:Shared) (mg mb:Str->Option Value) (fa:Addr) (o:Obj) (pm cd doc:Value) (a:Addr) (vs:List Value) (ns:List Int),
      Ground q loose [] XP w s₀ mg mb s₁.heap->YP w s₁.heap ->
      s₁.heap.get? fa=some o->o.data=.func (docDef d.name d.params d.body d.scope pm cd doc)->s₁.heap.CodeRec cd d.name->mg d.name=some (.ref fa) ->
      s₁.heap.get? a=some { cls:=.type "list",data:=.seq vs.toArray }->IntsAre vs ns->ns.length <= n->s₁.gens = #[] ->
      codeAny (model l.prog w) callerA (.call (.ref fa) ⟨[.ref a],[]⟩) (fun r s'=>r=.ok (.ret (.bool true))/\OldK s₁.heap s'.heap/\s'.os=s₁.os/\AllBare s'.gens) s₁) :
    WalkO q loose XP YP l.row.toRowW d [] (fun f vs=>PySem.call f vs):=by
  intro w s₀ s₁ mg mb G Y fa o pm cd doc dV kV ho hd hcd hD hmg hg args cY as hpre hlay hrd hwl hlo
  obtain rfl:dV=.none:=Dflts.none hD hdf
  obtain rfl:kV=.none:=Dflts.noKw hD
  obtain⟨a,vs,ns,rfl,rfl,hobj,hints,hlen⟩:=nv hn hpre hwl
  refine enter_call (codeAny_mono (call w s₀ s₁ mg mb fa o pm cd doc a vs ns G Y ho (fd_plain hd) hcd hmg hobj hints hlen hg) fun r s' hq=>?_)
  obtain⟨rfl,h2,h3,h4⟩:=hq
  exact⟨.inl ⟨.bool true,.bool true,[],rfl,fun _=>rfl,.bool true,nV l _,fun _=>⟨List.Pairwise.nil,fun _ hm=>(nomatch hm)⟩⟩,h2,h3,h4⟩
section
variable {prog:Program} {w:World} {A:Around} {E:Value->Shared->Prop} {s:Shared} {K:Frag}
end
end Att
namespace L2
open PySem PySem.Spec PyProof.Rows
theorem ib:∀ {vs:List Value} {ns:List Int},IntsAre vs ns->Vals (ns.map V.int) vs
  | _,_,.nil=>.nil
  | _,_,.cons n t h=>.cons ⟨t,rfl⟩ (ib h)
def xu (H:Hp):Prop:=∀ b,H b=none\/∃ o xs,H b=some (.frz o (.lst xs))
theorem qU {P:Program} {w:World} {K:W.Frag} {mg mb:Str->Option Value} {CX:CXT} {k:Nat} {fa a:Addr} {fd:FuncData} {x:Str} {sp:Sp} {s₁:Shared} {vs:List Value} {ns:List Int}
    (KX:K.In s₁.heap) (hns:s₁.heap.Ns mainGlobals mg) (hb:s₁.heap.Ns builtinsNs mb) (hbb:∀ x:Str,x ≠ "__name__"->mb x=bootBuiltins x) (hlim:s₁.heap.NoLimit) (hg:s₁.gens = #[])
    (ha:s₁.heap.get? a=some { cls:=.type "list",data:=.seq vs.toArray }) (hi:IntsAre vs ns) (hl:ns.length <= sizeLine) (hr:Room k callerA)
    (F:∀ base:Heap,K.In base->base.Ns mainGlobals mg->FnOk P w K mg base CX k fa fd [x] sp) (hbind:∀ (s:Shared) (u:Value),BindsTo s fd ⟨[u],[]⟩ [(x,u)])
    (hsp:∀ H:Hp,xu H->SqL K H a (ns.map V.int)->sp [.ref a] H (fun v _=>v=.bl true) fun _ _ _=>False)
    (hCX:∀ H e s',CX [] H s₁ (fun _ _ _=>False) e s'->False) :
    codeAny (model P w) callerA (.call (.ref fa) ⟨[.ref a],[]⟩) (fun r s'=>r=.ok (.ret (.bool true))/\OldK s₁.heap s'.heap/\s'.os=s₁.os/\AllBare s'.gens) s₁:=by
  have rv:=ib hi
  have lenV:=hi.length
  have core:∀ H:Hp,xu H->SqL K H a (ns.map V.int)->HOk P w H s₁.heap->(∀ b,H b ≠ none->b=a)->(H a ≠ none->K.lookup a=none) ->
      codeAny (model P w) callerA (.call (.ref fa) ⟨[.ref a],[]⟩) (fun r s'=>r=.ok (.ret (.bool true))/\OldK s₁.heap s'.heap/\s'.os=s₁.os/\AllBare s'.gens) s₁:=by
    intro H hO hS hok hA hK
    have base_of:∀ {b:Addr} {o:Obj},s₁.heap.get? b=some o->H b=none->(qX s₁.heap H).get? b=some o:=fun e n=>qW e n
    have noA:∀ {b:Addr} {o:Obj} {es:Array DictEntry} {ep:Nat},s₁.heap.get? b=some o->o.data=.dict es ep->H b=none:=fun {b o es ep} e d=>by
      cases q:H b with
      | none=>rfl
      | some u=>
        have e':b=a:=hA b (by rw[q];simp)
        subst e'
        rw[ha] at e;cases e
        have d':Data.seq vs.toArray _=Data.dict es ep:=d
        cases d'
    have nsK:∀ {b:Addr} {m:Str->Option Value},s₁.heap.Ns b m->(qX s₁.heap H).Ns b m:=fun {b m} ⟨o,es,ep,e,d,r⟩=>⟨o,es,ep,base_of e (noA e d),d,r⟩
    have hKb:K.In (qX s₁.heap H):=fun b o e=>base_of (KX b o e) (by
      cases q:H b with
      | none=>rfl
      | some u=>
        have e':b=a:=hA b (by rw[q];simp)
        subst e'
        rw[hK (by rw[q];simp)] at e;cases e)
    have hM:Mod K mg (qX s₁.heap H):=⟨hKb,nsK hns,⟨mb,nsK hb,hbb⟩,let ⟨mc,h1,h2⟩:=hlim;⟨mc,nsK h1,h2⟩⟩
    have e0:xw P w K mg (qX s₁.heap H) callerA [] s₁ H:=⟨rfl,hM,fun b o e=>uB e,Nat.le_of_eq (oS _ _),trivial,fun b hb=>absurd (show b ∈ ([]:List Addr) from hb) (by simp),hok,.of_eq hg⟩
    refine codeAny_mono ((F _ hKb (nsK hns)).run callerA [] s₁ H ⟨[.ref a],[]⟩ [.ref a] [.ref a] _ _ hr e0 (hbind s₁ (.ref a)) (.cons rfl .nil) (hsp H hO hS)) fun r s' h=>?_
    cases r with
    | error e=>exact (hCX H e s' h).elim
    | ok fl=>
      cases fl with
      | next=>exact False.elim h
      | brk=>exact False.elim h
      | cont=>exact False.elim h
      | ret u=>
        obtain⟨v,H',os,bare,un,hok',r',q⟩:=h
        have q':v=.bl true:=q
        subst q'
        obtain rfl:u=Value.bool true:=r'
        refine⟨rfl,OldK.of_keep fun b o e=>?_,os,bare⟩
        cases q:H b with
        | none=>exact un.keep b o e q (by intro z;exact absurd (show b ∈ ([]:List Addr) from z) (by simp)) (by simp)
        | some u=>
          rcases hO b with z | ⟨ob,xs,z⟩
          · rw[q] at z;cases z
          · have z2:=un.frzs b ob _ z
            obtain⟨e1,_⟩:=hok b _ z
            obtain⟨e2,_⟩:=hok' b _ z2
            rw[e] at e1;cases e1
            exact e2
  cases hk:K.lookup a with
  | some o=>
    have e:=KX a o hk
    rw[ha] at e
    cases e
    refine core (fun _=>none) (fun _=>.inl rfl) (.inr ⟨_,vs.toArray,_,hk,rfl,rfl,rfl,by rw[List.size_toArray,lenV];exact hl,by simpa using rv⟩) (fun b u z=>by have z':(none:Option HO)=some u:=z;cases z') (fun b z=>absurd rfl z) fun z=>absurd rfl z
  | none=>
    refine core (fun b=>if b=a then some (.frz { cls:=.type "list",data:=.seq vs.toArray } (.lst (ns.map V.int))) else none) (fun b=>?_) (.inl (.inr ⟨{ cls:=.type "list",data:=.seq vs.toArray },if_pos rfl⟩)) (fun b u z=>?_) (fun b z=>?_) fun _=>hk
    · by_cases hb:b=a
      · exact .inr ⟨_,_,if_pos hb⟩
      · exact .inl (if_neg hb)
    · by_cases hb:b=a
      · have z':=(if_pos hb).symm.trans z
        cases z'
        subst hb
        exact⟨ha,by rw[List.length_map];exact hl,vs,_,rv,ha⟩
      · have z':=(if_neg hb).symm.trans z
        cases z'
    · by_cases hb:b=a
      · exact hb
      · exact absurd (if_neg hb) z
end L2
namespace L2
open PySem PySem.Spec PyProof.Rows
abbrev KOf {K:W.Frag} {h:Heap} (_:K.In h):W.Frag:=K
theorem sP {l:PySem.W.OpenLaw} {n k:Nat} {q:Program} {loose:List Str} {XP:(Str->Option Value)->Heap->Prop} {YP:World->Heap->Prop} {d:DefRec} {K:Params->W.Frag} {CX:World->CXT} {sp:World->Sp} {x:Str}
    (hn:l.most=some n) (hn2:n <= sizeLine) (hdf:d.params.defaults=[]) (hr:Room k callerA)
    (hY:∀ (w:World) (h:Heap),YP w h->(K w.params).In h)
    (F:∀ (w:World) (mg:Str->Option Value) (fa:Addr) (h:Heap),(K w.params).In h->h.Ns mainGlobals mg->mg d.name=some (.ref fa) ->
      ∃ fd:FuncData,(∀ (s:Shared) (u:Value),BindsTo s fd ⟨[u],[]⟩ [(x,u)]) /\
        ∀ base:Heap,(K w.params).In base->base.Ns mainGlobals mg->FnOk l.prog w (K w.params) mg base (CX w) k fa fd [x] (sp w))
    (hsp:∀ (w:World) (H:Hp) (a:Addr) (ns:List Int),ns.length <= n->xu H->SqL (K w.params) H a (ns.map V.int)->sp w [.ref a] H (fun v _=>v=.bl true) fun _ _ _=>False)
    (hCX:∀ (w:World) (H:Hp) (s:Shared) (e:Value) (s':Shared),CX w [] H s (fun _ _ _=>False) e s'->False) :
    PySem.W.WalkO q loose XP YP l.row.toRowW d [] (fun f vs=>PySem.call f vs):=by
  refine Att.attach_call hn hdf fun w s₀ s₁ mg mb fa o pm cd doc a vs ns G Y ho hd hcd hmg hobj hints hlen hg=>?_
  have KX:=hY w _ Y
  obtain⟨fd,hb,hF⟩:=F w mg fa _ KX G.T.g hmg
  exact qU KX G.T.g G.T.b G.T.builtins G.T.nolimit hg hobj hints (Nat.le_trans hlen hn2) hr hF hb (fun H hO hS=>hsp w H a ns hlen hO hS) fun H e s'=>hCX w H s₁ e s'
theorem walk_ofK {l:PySem.W.OpenLaw} {n k:Nat} {q:Program} {loose:List Str} {XP:(Str->Option Value)->Heap->Prop} {YP:World->Heap->Prop} {d:DefRec} {K:Params->W.Frag} {CX:CXT} {sp:W.Frag->Sp} {x:Str}
    (hn:l.most=some n) (hn2:n <= sizeLine) (hdf:d.params.defaults=[]) (hr:Room k callerA)
    (hY:∀ (w:World) (h:Heap),YP w h->(K w.params).In h)
    (F:∀ (w:World) (mg:Str->Option Value) (fa:Addr) (h:Heap),(K w.params).In h->h.Ns mainGlobals mg->mg d.name=some (.ref fa) ->
      ∃ fd:FuncData,(∀ (s:Shared) (u:Value),BindsTo s fd ⟨[u],[]⟩ [(x,u)]) /\
        ∀ base:Heap,(K w.params).In base->base.Ns mainGlobals mg->FnOk l.prog w (K w.params) mg base CX k fa fd [x] (sp (K w.params)))
    (hsp:∀ (K:W.Frag) (H:Hp) (a:Addr) (ns:List Int),ns.length <= n->xu H->SqL K H a (ns.map V.int)->sp K [.ref a] H (fun v _=>v=.bl true) fun _ _ _=>False)
    (hCX:∀ (H:Hp) (s:Shared) (e:Value) (s':Shared),CX [] H s (fun _ _ _=>False) e s'->False) :
    PySem.W.WalkO q loose XP YP l.row.toRowW d [] (fun f vs=>PySem.call f vs):=
  sP (K:=K) (CX:=fun _=>CX) (sp:=fun w=>sp (K w.params)) hn hn2 hdf hr hY F (fun w H a ns h1 h2 h3=>hsp (K w.params) H a ns h1 h2 h3) fun _ H s e s'=>hCX H s e s'
end L2
namespace L2
open PySem PySem.Spec PyProof.Rows
noncomputable def aB (s:Stmt):Arguments:=match s with
  | .FunctionDef _ a _ _ _ _ _ _ _ _=>a
  | _=>{ posonlyargs:=[],args:=[],vararg:=none,kwonlyargs:=[],kw_defaults:=[],kwarg:=none,defaults:=[] }
noncomputable def aA (s:Stmt):List Stmt:=match s with
  | .FunctionDef _ _ b _ _ _ _ _ _ _=>b
  | _=>[]
noncomputable def ah (s:Stmt):Scope:=match s with
  | .FunctionDef _ _ _ _ _ _ sc _ _ _=>sc
  | _=>{ kind:=.function,names:=[],isGenerator:=false,isCoroutine:=false }
abbrev CX0:CXT:=fun _ _ _ _ _ _=>False
abbrev E0:XK:=fun _ _ _=>False
theorem aW {X:Cx}:gk CX0 X E0:=fun _ _ _ _ _ _ _ h=>h.elim
structure Fun (K:W.Frag) (x qual:Str) (st:Stmt) (f:Addr) (fd:FuncData):Prop where
  ex:∃ (oc:Value) (od:Option Addr) (kV doc pm:Value) (an:Option Addr) (cdv ct:Value) (osl:Array (Option Value)),
    fd=PySem.W.fnOf x qual (aB st) (aA st) (ah st) .none kV doc pm an cdv ct/\K.lookup f=some ⟨oc,od,.func fd,osl⟩/\PySem.W.codeIn K cdv qual=true
  kp:PySem.W.keepIn K (.ref f)=true
section
variable {P:Program} {w:World} {K:W.Frag} {mg:Str->Option Value} {base:Heap}
theorem Fun.ok {x qual:Str} {st:Stmt} {f:Addr} {fd:FuncData} {N ps:List Str} {k:Nat} {sp:Sp} (F:Fun K x qual st f fd) (S:aF N ps (ah st)) (len:∀ vs H Q E,sp vs H Q E->vs.length=ps.length)
    (hbody:∀ (cdv:Value) (A:Around) (outer:List Env) (s:Shared) (H:Hp) (vs:List V) (Q:VK) (E:XK),Room k (A.deeper (envOfC qual (ah st) s.heap.objs.size f cdv))->sp vs H Q E ->
      ∃ t,PSs (cm CX0 P w K mg base N qual (ah st) f cdv A outer s H E).nox (aA st) t/\t { nx:=fun _ H'=>Q .non H',rt:=Q } (start N vs) H):FnOk P w K mg base CX0 (k+1) f fd ps sp:=by
  obtain⟨oc,od,kV,doc,pm,an,cdv,ct,osl,rfl,lk,hcd⟩:=F.ex
  refine xb lk hcd S len fun A outer s H vs Q E hr hsp=>?_
  obtain⟨t,h,q⟩:=hbody cdv A outer s H vs Q E hr hsp
  exact⟨t,h.nox,q⟩
theorem Fun.binds {x qual:Str} {st:Stmt} {f:Addr} {fd:FuncData} {ps:List Str} (F:Fun K x qual st f fd)
    (h:∀ (kV doc pm:Value) (an:Option Addr) (cdv ct:Value) (us:List Value),us.length=ps.length->bindArgs (PySem.W.fnOf x qual (aB st) (aA st) (ah st) .none kV doc pm an cdv ct) ⟨us,[]⟩=pure (ps.zip us)):Binds K fd ps []:=by
  obtain⟨oc,od,kV,doc,pm,an,cdv,ct,osl,rfl,lk,hcd⟩:=F.ex
  exact .all (h kV doc pm an cdv ct)
theorem aR {x qual:Str} {st:Stmt} {f:Addr} {oc:Value} {od an:Option Addr} {osl:Array (Option Value)} {kV doc pm cdv ct:Value} (l:K.lookup f=some ⟨oc,od,.func (PySem.W.fnOf x qual (aB st) (aA st) (ah st) .none kV doc pm an cdv ct),osl⟩)
    (c:PySem.W.codeIn K cdv qual=true) (k:PySem.W.keepIn K (.ref f)=true):Fun K x qual st f (PySem.W.fnOf x qual (aB st) (aA st) (ah st) .none kV doc pm an cdv ct):=⟨⟨oc,od,kV,doc,pm,an,cdv,ct,osl,rfl,l,c⟩,k⟩
end
section
variable {X:Cx}
theorem pv (i:Nat) {x:Str} {pos:Pos} (hN:X.N[i]?=some x:=by rfl) (hv:Vis X.env.scope x:=by first | exact Or.inl rfl | exact Or.inr (Or.inl rfl) | exact Or.inr (Or.inr rfl)) (hd:(x == ("__debug__" : Str))=false:=by decide)
    (hcd:(x == ("__classdict__" : Str))=false:=by decide):PE X (.Name x pos) (tVar i):=wH hN hv hd hcd
end
theorem hW {A B:Prop} (h:B):if false=true then A else B:=by
  rw[if_neg Bool.false_ne_true]
  exact h
theorem mf {A B:Prop} (h:A):if true=true then A else B:=by
  rw[if_pos rfl]
  exact h
theorem wY {c A B:Prop} [Decidable c] (hc:c) (h:B):if (!decide c)=true then A else B:=by
  rw[decide_eq_true hc]
  exact hW h
def Same (H H':Hp):Prop:=∀ b o,H b=some o->H' b=some o
theorem Same.refl (H:Hp):Same H H:=fun _ _ h=>h
theorem Same.trans {H H1 H2:Hp} (a:Same H H1) (b:Same H1 H2):Same H H2:=fun c o h=>b c o (a c o h)
theorem Same.free {H H':Hp} (e:Same H H') {l:Addr} (h:H' l=Option.none):H l=Option.none:=by
  cases q:H l with
  | none=>rfl
  | some o=>
    rw[e l o q] at h
    cases h
theorem Same.seq {K:W.Frag} {H H':Hp} {a:Addr} {xs:List V} (e:Same H H') (h:SqL K H a xs):SqL K H' a xs:=by
  rcases h with (h | ⟨o,h⟩) | h
  · exact .inl (.inl (e _ _ h))
  · exact .inl (.inr ⟨o,e _ _ h⟩)
  · exact .inr h
end L2
set_option maxHeartbeats 4000000
namespace L2
open PySem PySem.Spec PyProof.Rows
inductive Da where
  | fl (v:V)
  | tup (ds:List Da)
  | lst (ds:List Da)
mutual
def Isd (K:W.Frag) (H:Hp):Da->V->Prop
  | .fl x,v=>v=x/\fj x=true
  | .tup ds,v=>∃ a xs,v=.ref a/\SqT K H a xs/\Isds K H ds xs
  | .lst ds,v=>∃ a xs,v=.ref a/\SqL K H a xs/\Isds K H ds xs
def Isds (K:W.Frag) (H:Hp):List Da->List V->Prop
  | [],xs=>xs=[]
  | d::ds,xs=>∃ v vs,xs=v::vs/\Isd K H d v/\Isds K H ds vs
end
mutual
noncomputable def eqD:Da->Da->Bool
  | .fl x,.fl y=>eqV x y
  | .tup a,.tup b=>eh a b
  | .lst a,.lst b=>eh a b
  | _,_=>false
noncomputable def eh:List Da->List Da->Bool
  | [],[]=>true
  | a::r,b::t=>eqD a b && eh r t
  | _,_=>false
end
mutual
noncomputable def km:Da->Nat
  | .fl _=>0
  | .tup ds=>cA ds+1
  | .lst ds=>cA ds+1
noncomputable def cA:List Da->Nat
  | []=>0
  | d::ds=>max (km d) (cA ds)
end
theorem Isds.len {K:W.Frag} {H:Hp}:∀ {ds:List Da} {xs:List V},Isds K H ds xs->ds.length=xs.length
  | [],xs,h=>by unfold Isds at h;subst h;rfl
  | d::ds,xs,h=>by
    unfold Isds at h
    obtain⟨v,vs,rfl,_,t⟩:=h
    rw[List.length_cons,List.length_cons,Isds.len t]
theorem Isds.get {K:W.Frag} {H:Hp}:∀ {ds:List Da} {xs:List V} {i:Nat} {d:Da} {v:V},Isds K H ds xs->ds[i]?=some d->xs[i]?=some v->Isd K H d v
  | [],_,_,_,_,_,e,_=>by simp at e
  | d::ds,xs,0,_,_,h,e,q=>by
    unfold Isds at h
    obtain⟨v,vs,rfl,hd,t⟩:=h
    simp at e q
    subst e q
    exact hd
  | d::ds,xs,i+1,_,_,h,e,q=>by
    unfold Isds at h
    obtain⟨v,vs,rfl,hd,t⟩:=h
    exact Isds.get t (by simpa using e) (by simpa using q)
theorem gU {x:V} (h:fj x=true):eqV x x=true:=by
  cases x with
  | non=>rfl
  | bl b=>show (b == b)=true;simp
  | int i=>show (i == i)=true;simp
  | str z=>show (z == z)=true;simp
  | _=>exact absurd (show false=true from h) Bool.false_ne_true
section
variable {X:Cx} {pins:List (Addr × Obj)} {σ:St} {H:Hp} {s:Shared}
theorem Inv.lst_tup (I:Inv X pins σ H s) {a:Addr} {xs ys:List V} (h:SqL X.K H a xs) (h':SqT X.K H a ys):False:=by
  obtain⟨its,_,⟨o1,n1,e1,c1,_⟩,_⟩:=I.list h
  obtain⟨its2,_,⟨o,e2,c2,_⟩,_⟩:=I.tuple h'
  rw[e1] at e2
  cases e2
  rw[c1] at c2
  exact absurd (Value.type.inj c2) (by decide)
theorem Isd.flat_ref {K:W.Frag} {a:Addr} {x:V} (h:Isd K H (.fl x) (.ref a)):False:=by
  unfold Isd at h
  obtain⟨e,f⟩:=h
  subst e
  exact absurd (show false=true from f) Bool.false_ne_true
mutual
theorem Isd.inj (I:Inv X pins σ H s):∀ (d e:Da) {v:V},Isd X.K H d v->Isd X.K H e v->d=e
  | .fl x,.fl y,v,h,q=>by
    unfold Isd at h q
    rw[<- h.1,<- q.1]
  | .fl x,.tup ys,v,h,q=>by
    unfold Isd at q
    obtain⟨a,zs,e,_⟩:=q
    subst e
    exact h.flat_ref.elim
  | .fl x,.lst ys,v,h,q=>by
    unfold Isd at q
    obtain⟨a,zs,e,_⟩:=q
    subst e
    exact h.flat_ref.elim
  | .tup xs,.fl y,v,h,q=>by
    unfold Isd at h
    obtain⟨a,zs,e,_⟩:=h
    subst e
    exact q.flat_ref.elim
  | .lst xs,.fl y,v,h,q=>by
    unfold Isd at h
    obtain⟨a,zs,e,_⟩:=h
    subst e
    exact q.flat_ref.elim
  | .tup xs,.tup ys,v,h,q=>by
    unfold Isd at h q
    obtain⟨a,us,e,ha,hs⟩:=h
    obtain⟨b,ws,e',hb,qs⟩:=q
    subst e
    cases e'
    rw[I.tuple_inj ha hb] at hs
    rw[Isds.inj I xs ys hs qs]
  | .lst xs,.lst ys,v,h,q=>by
    unfold Isd at h q
    obtain⟨a,us,e,ha,hs⟩:=h
    obtain⟨b,ws,e',hb,qs⟩:=q
    subst e
    cases e'
    rw[I.list_inj ha hb] at hs
    rw[Isds.inj I xs ys hs qs]
  | .tup xs,.lst ys,v,h,q=>by
    unfold Isd at h q
    obtain⟨a,us,e,ha,hs⟩:=h
    obtain⟨b,ws,e',hb,qs⟩:=q
    subst e
    cases e'
    exact (I.lst_tup hb ha).elim
  | .lst xs,.tup ys,v,h,q=>by
    unfold Isd at h q
    obtain⟨a,us,e,ha,hs⟩:=h
    obtain⟨b,ws,e',hb,qs⟩:=q
    subst e
    cases e'
    exact (I.lst_tup ha hb).elim
theorem Isds.inj (I:Inv X pins σ H s):∀ (ds es:List Da) {vs:List V},Isds X.K H ds vs->Isds X.K H es vs->ds=es
  | [],[],_,_,_=>rfl
  | [],e::es,vs,h,q=>by
    unfold Isds at h q
    obtain⟨v,r,e1,_⟩:=q
    rw[h] at e1;cases e1
  | d::ds,[],vs,h,q=>by
    unfold Isds at h q
    obtain⟨v,r,e1,_⟩:=h
    rw[q] at e1;cases e1
  | d::ds,e::es,vs,h,q=>by
    unfold Isds at h q
    obtain⟨v,r,e1,h1,h2⟩:=h
    obtain⟨v',r',e2,q1,q2⟩:=q
    subst e1
    cases e2
    rw[Isd.inj I d e h1 q1,Isds.inj I ds es h2 q2]
end
mutual
theorem gW {K:W.Frag}:∀ (d:Da) {v:V},Isd K H d v->eqD d d=true
  | .fl x,v,h=>by
    unfold Isd at h
    unfold eqD
    exact gU h.2
  | .tup ds,v,h=>by
    unfold Isd at h
    obtain⟨_,_,_,_,hs⟩:=h
    unfold eqD
    exact fq ds hs
  | .lst ds,v,h=>by
    unfold Isd at h
    obtain⟨_,_,_,_,hs⟩:=h
    unfold eqD
    exact fq ds hs
theorem fq {K:W.Frag}:∀ (ds:List Da) {vs:List V},Isds K H ds vs->eh ds ds=true
  | [],_,_=>by unfold eh;rfl
  | d::ds,vs,h=>by
    unfold Isds at h
    obtain⟨_,_,_,h1,h2⟩:=h
    unfold eh
    rw[gW d h1,fq ds h2]
    rfl
end
theorem dw:∀ (ds es:List Da),ds.length=es.length->(List.range ds.length).all (fun j=>match ds[j]?,es[j]? with | some a,some b=>eqD a b | _,_=>false)=eh ds es
  | [],[],_=>by unfold eh;rfl
  | [],_::_,h=>by simp at h
  | _::_,[],h=>by simp at h
  | d::ds,e::es,h=>by
    have ih:=dw ds es (by simpa using h)
    unfold eh
    rw[<- ih,List.length_cons,List.range_succ_eq_map,List.all_cons,List.all_map]
    simp only[List.getElem?_cons_zero,Function.comp_def,List.getElem?_cons_succ]
theorem dv:∀ (ds es:List Da),ds.length ≠ es.length->eh ds es=false
  | [],[],h=>by simp at h
  | [],_::_,_=>by unfold eh;rfl
  | _::_,[],_=>by unfold eh;rfl
  | d::ds,e::es,h=>by
    unfold eh
    rw[dv ds es (by simpa using h),Bool.and_false]
theorem gX:∀ {ds:List Da} {d:Da} {j:Nat},ds[j]?=some d->km d <= cA ds
  | [],_,_,h=>by simp at h
  | d::ds,_,0,h=>by
    simp at h
    subst h
    unfold cA
    omega
  | d::ds,e,j+1,h=>by
    have:=gX (ds:=ds) (d:=e) (j:=j) (by simpa using h)
    unfold cA
    omega
noncomputable def atE (ds es:List Da) (j:Nat):Bool:=match ds[j]?,es[j]? with
  | some a,some b=>eqD a b
  | _,_=>false
theorem jr {K:W.Frag} {n:Nat} {A:Around} (hE:∀ (d e:Da) (v x:V) (u w:Value),km d <= n->Isd K H d v->Isd K H e x->RelV v u->RelV x w->SeqAt.EqAt A s u w (eqD d e)) {ds es:List Da} {xs ys:List V} {us ws:List Value} (hdp:cA ds <= n)
    (h1:Isds K H ds xs) (h2:Isds K H es ys) (r1:Vals xs us) (r2:Vals ys ws) (j:Nat) (l1:j < us.toArray.size) (l2:j < ws.toArray.size):SeqAt.EqAt A s us.toArray[j] ws.toArray[j] (atE ds es j):=by
  have l1':j < us.length:=by simpa using l1
  have l2':j < ws.length:=by simpa using l2
  have q1:=h1.len
  have q2:=h2.len
  have q3:=r1.length
  have q4:=r2.length
  have a1:ds[j]?=some ds[j]:=List.getElem?_eq_getElem (by omega)
  have a2:es[j]?=some es[j]:=List.getElem?_eq_getElem (by omega)
  have a3:xs[j]?=some xs[j]:=List.getElem?_eq_getElem (by omega)
  have a4:ys[j]?=some ys[j]:=List.getElem?_eq_getElem (by omega)
  obtain⟨u1,b1,c1⟩:=r1.get a3
  obtain⟨w1,b2,c2⟩:=r2.get a4
  have e1:us.toArray[j]=u1:=by
    have:us[j]=u1:=by rw[List.getElem?_eq_getElem l1'] at b1;exact Option.some.inj b1
    simpa using this
  have e2:ws.toArray[j]=w1:=by
    have:ws[j]=w1:=by rw[List.getElem?_eq_getElem l2'] at b2;exact Option.some.inj b2
    simpa using this
  rw[e1,e2]
  unfold atE
  rw[a1,a2]
  exact hE ds[j] es[j] _ _ _ _ (Nat.le_trans (gX a1) hdp) (h1.get a1 a3) (h2.get a2 a4) c1 c2
theorem oZ (I:Inv X pins σ H s):∀ (n:Nat) (d e:Da) {A:Around} {v x:V} {u w:Value},km d <= n->Isd X.K H d v->Isd X.K H e x->RelV v u->RelV x w->A.units+n < cLine->SeqAt.EqAt A s u w (eqD d e):=by
  intro n
  induction n with
  | zero=>
    intro d e A v x u w hn hd he ru rw' hu
    cases d with
    | tup ds=>unfold km at hn;omega
    | lst ds=>unfold km at hn;omega
    | fl y=>
      unfold Isd at hd
      obtain⟨rfl,fy⟩:=hd
      cases e with
      | fl z=>
        unfold Isd at he
        obtain⟨rfl,fz⟩:=he
        unfold eqD
        exact sr ru rw' fy fz
      | tup es=>
        unfold Isd at he
        obtain⟨a,xs,rfl,ha,_⟩:=he
        obtain⟨its,_,p,_⟩:=I.tuple ha
        cases rw'
        have p':s.heap.IsTuple a its.toArray:=p
        cases v with
        | non=>cases ru;exact SeqAt.EqAt.none_tuple p' (by omega)
        | bl b=>cases ru;exact SeqAt.EqAt.bool_tuple b p' (by omega)
        | int i=>obtain⟨t,rfl⟩:=ru;exact SeqAt.EqAt.int_tuple i t p' (by omega)
        | str z=>obtain⟨t,rfl⟩:=ru;exact SeqAt.EqAt.str_tuple z t p' (by omega)
        | _=>exact absurd (show false=true from fy) Bool.false_ne_true
      | lst es=>
        unfold Isd at he
        obtain⟨a,xs,rfl,ha,_⟩:=he
        obtain⟨its,_,p,_⟩:=I.list ha
        cases rw'
        have p':=p.isList
        cases v with
        | non=>cases ru;exact SeqAt.EqAt.none_list p' (by omega)
        | bl b=>cases ru;exact SeqAt.EqAt.bool_list b p' (by omega)
        | int i=>obtain⟨t,rfl⟩:=ru;exact SeqAt.EqAt.int_list i t p' (by omega)
        | str z=>obtain⟨t,rfl⟩:=ru;exact SeqAt.EqAt.str_list z t p' (by omega)
        | _=>exact absurd (show false=true from fy) Bool.false_ne_true
  | succ n ih=>
    intro d e A v x u w hn hd he ru rw' hu
    have items:∀ {ds es:List Da} {xs ys:List V} {us ws:List Value},cA ds <= n->Isds X.K H ds xs->Isds X.K H es ys->Vals xs us->Vals ys ws ->
        ∀ j (h1:j < us.toArray.size) (h2:j < ws.toArray.size),SeqAt.EqAt A.in1 s us.toArray[j] ws.toArray[j] (atE ds es j):=
      jr (n:=n) fun d e v x u w h1 h2 h3 h4 h5=>ih d e h1 h2 h3 h4 h5 (by show A.units+1+n < cLine;omega)
    cases d with
    | fl y=>
      exact ih (.fl y) e (by unfold km;omega) hd he ru rw' (by omega)
    | tup ds=>
      cases e with
      | fl z=>
        unfold Isd at hd he
        obtain⟨a,xs,rfl,ha,_⟩:=hd
        obtain⟨rfl,fz⟩:=he
        obtain⟨its,_,p,_⟩:=I.tuple ha
        cases ru
        have p':s.heap.IsTuple a its.toArray:=p
        cases x with
        | non=>cases rw';exact SeqAt.EqAt.tuple_none p' (by omega)
        | bl b=>cases rw';exact SeqAt.EqAt.tuple_bool b p' (by omega)
        | int i=>obtain⟨t,rfl⟩:=rw';exact SeqAt.EqAt.tuple_int i t p' (by omega)
        | str z=>obtain⟨t,rfl⟩:=rw';exact SeqAt.EqAt.tuple_str z t p' (by omega)
        | _=>exact absurd (show false=true from fz) Bool.false_ne_true
      | tup es=>
        have hd0:=hd
        have he0:=he
        unfold Isd at hd he
        obtain⟨a,xs,rfl,ha,hs⟩:=hd
        obtain⟨b,ys,rfl,hb,qs⟩:=he
        cases ru
        cases rw'
        by_cases hab:a=b
        · subst hab
          rw[<- Isd.inj I (.tup ds) (.tup es) hd0 he0,gW _ hd0]
          exact SeqAt.EqAt.same _
        · obtain⟨us,r1,p1,_⟩:=I.tuple ha
          obtain⟨ws,r2,p2,_⟩:=I.tuple hb
          have hdp:cA ds <= n:=by unfold km at hn;omega
          have key:=SeqAt.RcAt.tuples (A:=A) (e:=atE ds es) (show s.heap.IsTuple a us.toArray from p1) (show s.heap.IsTuple b ws.toArray from p2) (by omega) (items hdp hs qs r1 r2)
          have ev:((List.range (min us.toArray.size ws.toArray.size)).all (atE ds es) && us.toArray.size == ws.toArray.size)=eqD (.tup ds) (.tup es):=by
            have q1:=hs.len
            have q2:=qs.len
            have q3:=r1.length
            have q4:=r2.length
            have z1:us.toArray.size=ds.length:=by simp;omega
            have z2:ws.toArray.size=es.length:=by simp;omega
            unfold eqD
            rw[z1,z2]
            by_cases hl:ds.length=es.length
            · rw[<- dw ds es hl,hl,Nat.min_self,beq_self_eq_true,Bool.and_true]
              rfl
            · rw[dv ds es hl,beq_eq_false_iff_ne.mpr hl,Bool.and_false]
          rw[ev] at key
          exact SeqAt.EqAt.of_refs hab key
      | lst es=>
        unfold Isd at hd he
        obtain⟨a,xs,rfl,ha,hs⟩:=hd
        obtain⟨b,ys,rfl,hb,qs⟩:=he
        cases ru
        cases rw'
        obtain⟨us,r1,p1,_⟩:=I.tuple ha
        obtain⟨ws,r2,p2,_⟩:=I.list hb
        unfold eqD
        exact SeqAt.EqAt.tuple_list (show s.heap.IsTuple a us.toArray from p1) p2.isList (by omega)
    | lst ds=>
      cases e with
      | fl z=>
        unfold Isd at hd he
        obtain⟨a,xs,rfl,ha,_⟩:=hd
        obtain⟨rfl,fz⟩:=he
        obtain⟨its,_,p,_⟩:=I.list ha
        cases ru
        have p':=p.isList
        cases x with
        | non=>cases rw';exact SeqAt.EqAt.list_none p' (by omega)
        | bl b=>cases rw';exact SeqAt.EqAt.list_bool b p' (by omega)
        | int i=>obtain⟨t,rfl⟩:=rw';exact SeqAt.EqAt.list_int i t p' (by omega)
        | str z=>obtain⟨t,rfl⟩:=rw';exact SeqAt.EqAt.list_str z t p' (by omega)
        | _=>exact absurd (show false=true from fz) Bool.false_ne_true
      | tup es=>
        unfold Isd at hd he
        obtain⟨a,xs,rfl,ha,hs⟩:=hd
        obtain⟨b,ys,rfl,hb,qs⟩:=he
        cases ru
        cases rw'
        obtain⟨us,r1,p1,_⟩:=I.list ha
        obtain⟨ws,r2,p2,_⟩:=I.tuple hb
        unfold eqD
        exact SeqAt.EqAt.list_tuple p1.isList (show s.heap.IsTuple b ws.toArray from p2) (by omega)
      | lst es=>
        have hd0:=hd
        have he0:=he
        unfold Isd at hd he
        obtain⟨a,xs,rfl,ha,hs⟩:=hd
        obtain⟨b,ys,rfl,hb,qs⟩:=he
        cases ru
        cases rw'
        by_cases hab:a=b
        · subst hab
          rw[<- Isd.inj I (.lst ds) (.lst es) hd0 he0,gW _ hd0]
          exact SeqAt.EqAt.same _
        · obtain⟨us,r1,p1,_⟩:=I.list ha
          obtain⟨ws,r2,p2,_⟩:=I.list hb
          have hdp:cA ds <= n:=by unfold km at hn;omega
          have q1:=hs.len
          have q2:=qs.len
          have q3:=r1.length
          have q4:=r2.length
          have z1:us.toArray.size=ds.length:=by simp;omega
          have z2:ws.toArray.size=es.length:=by simp;omega
          by_cases hl:ds.length=es.length
          · have key:=SeqAt.RcAt.lists (A:=A) (e:=atE ds es) p1.isList p2.isList (by rw[z1,z2];exact hl) (by omega) (items hdp hs qs r1 r2)
            have ev:(List.range us.toArray.size).all (atE ds es)=eqD (.lst ds) (.lst es):=by
              unfold eqD
              rw[z1,<- dw ds es hl]
              rfl
            rw[ev] at key
            exact SeqAt.EqAt.of_refs hab key
          · have key:=SeqAt.RcAt.lists_lengths (A:=A) p1.isList p2.isList (by rw[z1,z2];exact bne_iff_ne.mpr hl) (by omega)
            have ev:false=eqD (.lst ds) (.lst es):=by
              unfold eqD
              rw[dv ds es hl]
            rw[ev] at key
            exact SeqAt.EqAt.of_refs hab key
theorem xj {ds es:List Da} {us ws:List Value} (q1:ds.length=us.length) (q2:es.length=ws.length):((List.range (min us.toArray.size ws.toArray.size)).all (atE ds es) && us.toArray.size == ws.toArray.size)=eh ds es:=by
  have z1:us.toArray.size=ds.length:=by simp;omega
  have z2:ws.toArray.size=es.length:=by simp;omega
  rw[z1,z2]
  by_cases hl:ds.length=es.length
  · rw[<- dw ds es hl,hl,Nat.min_self,beq_self_eq_true,Bool.and_true]
    rfl
  · rw[dv ds es hl,beq_eq_false_iff_ne.mpr hl,Bool.and_false]
noncomputable def tR (K:W.Frag) (f:Bool->Bool):R2:=fun x y H Q=>∃ a b xs ys ds es,x=.ref a/\y=.ref b/\((SqT K H a xs/\SqT K H b ys)\/(SqL K H a xs/\SqL K H b ys))/\Isds K H ds xs/\Isds K H es ys/\cA ds <= 50/\Q (.bl (f (eh ds es))) H
theorem rS (hu:X.A.units+64 < cLine):OpR X (compareOp .Eq) (tR X.K id):=by
  intro pins s σ H x y v u Q I rx ry h
  obtain⟨a,b,xs,ys,ds,es,rfl,rfl,hq,hs,qs,hd,q⟩:=h
  cases rx
  cases ry
  have items:=fun {us ws:List Value} (r1:Vals xs us) (r2:Vals ys ws)=>jr (s:=s) (H:=H) (n:=50) (A:=X.A.in1) (fun d e v x u w h1 h2 h3 h4 h5=>oZ I 50 d e h1 h2 h3 h4 h5 (by show X.A.units+1+50 < cLine;omega)) hd hs qs r1 r2
  rcases hq with ⟨ha,hb⟩ | ⟨ha,hb⟩
  · obtain⟨us,r1,p1,_⟩:=I.tuple ha
    obtain⟨ws,r2,p2,_⟩:=I.tuple hb
    refine SeqAt.eq_tupleAt (e:=atE ds es) (show s.heap.IsTuple a us.toArray from p1) (show s.heap.IsTuple b ws.toArray from p2) (by omega) (items r1 r2) ?_
    rw[xj (hs.len.trans r1.length) (qs.len.trans r2.length)]
    exact⟨.bl _,H,I,rfl,q⟩
  · obtain⟨us,r1,p1,_⟩:=I.list ha
    obtain⟨ws,r2,p2,_⟩:=I.list hb
    have z1:us.toArray.size=ds.length:=by have q1:=hs.len;have q3:=r1.length;simp;omega
    have z2:ws.toArray.size=es.length:=by have q1:=qs.len;have q3:=r2.length;simp;omega
    by_cases hl:ds.length=es.length
    · refine SeqAt.eq_listAt (e:=atE ds es) p1.isList p2.isList (by rw[z1,z2];exact hl) (by omega) (items r1 r2) ?_
      have ev:(List.range us.toArray.size).all (atE ds es)=eh ds es:=by
        rw[z1,<- dw ds es hl]
        rfl
      rw[ev]
      exact⟨.bl _,H,I,rfl,q⟩
    · refine SeqAt.eq_list_lengthsAt p1.isList p2.isList (by rw[z1,z2];exact bne_iff_ne.mpr hl) (by omega) ?_
      have ev:false=eh ds es:=(dv ds es hl).symm
      rw[ev]
      exact⟨.bl _,H,I,rfl,q⟩
theorem wL (hu:X.A.units+64 < cLine):OpR X (compareOp .NotEq) (tR X.K not):=by
  intro pins s σ H x y v u Q I rx ry h
  obtain⟨a,b,xs,ys,ds,es,rfl,rfl,hq,hs,qs,hd,q⟩:=h
  cases rx
  cases ry
  have items:=fun {us ws:List Value} (r1:Vals xs us) (r2:Vals ys ws)=>jr (s:=s) (H:=H) (n:=50) (A:=X.A.in1) (fun d e v x u w h1 h2 h3 h4 h5=>oZ I 50 d e h1 h2 h3 h4 h5 (by show X.A.units+1+50 < cLine;omega)) hd hs qs r1 r2
  rcases hq with ⟨ha,hb⟩ | ⟨ha,hb⟩
  · obtain⟨us,r1,p1,_⟩:=I.tuple ha
    obtain⟨ws,r2,p2,_⟩:=I.tuple hb
    refine SeqAt.RcNeAt.tuples (e:=atE ds es) (show s.heap.IsTuple a us.toArray from p1) (show s.heap.IsTuple b ws.toArray from p2) (by omega) (items r1 r2) _ _ _ _ ?_
    rw[xj (hs.len.trans r1.length) (qs.len.trans r2.length)]
    exact⟨.bl _,H,I,rfl,q⟩
  · obtain⟨us,r1,p1,_⟩:=I.list ha
    obtain⟨ws,r2,p2,_⟩:=I.list hb
    have z1:us.toArray.size=ds.length:=by have q1:=hs.len;have q3:=r1.length;simp;omega
    have z2:ws.toArray.size=es.length:=by have q1:=qs.len;have q3:=r2.length;simp;omega
    by_cases hl:ds.length=es.length
    · refine SeqAt.RcNeAt.lists (e:=atE ds es) p1.isList p2.isList (by rw[z1,z2];exact hl) (by omega) (items r1 r2) _ _ _ _ ?_
      have ev:(List.range us.toArray.size).all (atE ds es)=eh ds es:=by
        rw[z1,<- dw ds es hl]
        rfl
      rw[ev]
      exact⟨.bl _,H,I,rfl,q⟩
    · refine SeqAt.RcNeAt.lists_lengths p1.isList p2.isList (by rw[z1,z2];exact bne_iff_ne.mpr hl) (by omega) _ _ _ _ ?_
      have ev:true=!eh ds es:=by rw[dv ds es hl];rfl
      rw[ev]
      exact⟨.bl _,H,I,rfl,q⟩
end
end L2
namespace L2
open PySem PySem.Spec PyProof.Rows
theorem fF (env:Env):∀ (names:List (Str × NameKind)) (cs:List (Str × Addr)),(∀ x,(x,NameKind.free) ∈ names->∃ c,env.cells.lookup x=some c) ->
    (∀ x c,cs.lookup x=some c->env.cells.lookup x=some c) ->
    ∃ cl:List (Str × Addr),(forIn names cs fun (x:Str × NameKind) (r:List (Str × Addr))=>if (x.snd == NameKind.free)=true then do let a <- cellOf env x.fst;pure (ForInStep.yield ((x.fst,a)::r)) else (pure (ForInStep.yield r):Sem _))=(pure cl:Sem _) /\
      (∀ x c,cl.lookup x=some c->env.cells.lookup x=some c)/\∀ x,((x,NameKind.free) ∈ names\/∃ c,cs.lookup x=some c)->∃ c,cl.lookup x=some c
  | [],cs,_,h2=>⟨cs,rfl,h2,fun x hx=>hx.elim (fun z=>nomatch z) fun z=>z⟩
  | (n,k)::r,cs,h1,h2=>by
    cases hk:(k == NameKind.free) with
    | true=>
      have ek:k=.free:=by simpa using hk
      subst ek
      obtain⟨c,hc⟩:=h1 n List.mem_cons_self
      obtain⟨cl,e,a,b⟩:=fF env r ((n,c)::cs) (fun x hx=>h1 x (List.mem_cons_of_mem _ hx)) (fun x d hd=>by
        rw[List.lookup_cons] at hd
        cases hx:x == n with
        | true=>
          rw[hx] at hd
          have:x=n:=by simpa using hx
          subst this
          cases hd
          exact hc
        | false=>rw[hx] at hd;exact h2 x d hd)
      refine⟨cl,?_,a,fun x hx=>b x ?_⟩
      · rw[<- e,List.forIn_cons]
        have hcell:cellOf env n=pure c:=by unfold cellOf;rw[hc]
        simp only[hk,if_true]
        rw[hcell]
        rfl
      · rcases hx with hx | ⟨d,hd⟩
        · rcases List.mem_cons.mp hx with q | q
          · cases q
            exact .inr ⟨c,by rw[List.lookup_cons];simp⟩
          · exact .inl q
        · refine .inr ?_
          rw[List.lookup_cons]
          cases hx:x == n with
          | true=>exact⟨c,rfl⟩
          | false=>exact⟨d,hd⟩
    | false=>
      obtain⟨cl,e,a,b⟩:=fF env r cs (fun x hx=>h1 x (List.mem_cons_of_mem _ hx)) h2
      refine⟨cl,?_,a,fun x hx=>b x ?_⟩
      · rw[<- e,List.forIn_cons]
        simp only[hk,Bool.false_eq_true,if_false]
        rfl
      · rcases hx with hx | hx
        · rcases List.mem_cons.mp hx with q | q
          · cases q
            simp at hk
          · exact .inl q
        · exact .inr hx
theorem jy {scope:Scope} {env:Env} (h1:∀ x,(x,NameKind.free) ∈ scope.names->∃ c,env.cells.lookup x=some c) :
    ∃ cl:List (Str × Addr),closureFor scope env=pure cl/\(∀ x c,cl.lookup x=some c->env.cells.lookup x=some c)/\∀ x,(x,NameKind.free) ∈ scope.names->∃ c,cl.lookup x=some c:=by
  obtain⟨cl,e,a,b⟩:=fF env scope.names [] h1 (fun x c h=>by simp at h)
  refine⟨cl,?_,a,fun x hx=>b x (.inl hx)⟩
  simp only[closureFor]
  rw[e]
  rfl
noncomputable def Cx.comp (X:Cx) (sc:Scope) (cl:List (Str × Addr)) (C:Addr) (N:List Str) (s:Shared) (H:Hp) (fp:List Addr):Cx:=
  { X with N:=N,s₀:=s,H₀:=H,env:=compEnvC sc cl C X.env,outer:=X.stack,ex:=fp,fn:=fun _=>false,pn:=[],xe:=fun _ _=>False }
noncomputable def compChk (N:List Str) (osc sc:Scope) (t:Str) (ys:List Str) (js:List Nat):Bool:=
  sc.kind == .function && sc.names.all (fun y=>y.2 != .cell) && sc.names.all (fun y=>y.2 != .local || sc.names.lookup y.1 == some .local) &&
  sc.names.all (fun y=>y.2 != .free || osc.names.lookup y.1 == some .cell) && (ys.map some == js.map fun j=>N[j]?) &&
  ys.all (fun y=>sc.names.lookup y == some .free) && sc.names.lookup t == some .local && decide ((t::ys).Nodup)
structure xp (N:List Str) (osc sc:Scope) (t:Str) (ys:List Str) (js:List Nat):Prop where
  kind:sc.kind=.function
  ncell:∀ y ∈ sc.names,y.2 ≠ .cell
  loc:∀ y ∈ sc.names,y.2=.local->sc.names.lookup y.1=some .local
  fre:∀ y ∈ sc.names,y.2=.free->osc.names.lookup y.1=some .cell
  ysj:ys.map some=js.map fun j=>N[j]?
  ysf:∀ y ∈ ys,sc.names.lookup y=some .free
  tl:sc.names.lookup t=some .local
  nd:(t::ys).Nodup
theorem iL {N:List Str} {osc sc:Scope} {t:Str} {ys:List Str} {js:List Nat} (h:compChk N osc sc t ys js=true):xp N osc sc t ys js:=by
  unfold compChk at h
  simp only[Bool.and_eq_true,List.all_eq_true,decide_eq_true_eq,Bool.or_eq_true,bne_iff_ne,beq_iff_eq] at h
  obtain⟨⟨⟨⟨⟨⟨⟨a,b⟩,c⟩,d⟩,e⟩,f⟩,g⟩,i⟩:=h
  exact⟨a,fun y hy=>b y hy,fun y hy z=>(c y hy).resolve_left fun q=>q z,fun y hy z=>(d y hy).resolve_left fun q=>q z,e,f,g,i⟩
noncomputable def bh (js:List Nat) (σ:St):St:=js.map fun j=>(σ[j]?).join
theorem bK {env:Env} {x:Str}:∀ {names:List (Str × NameKind)} {k:NameKind},(names.map fun (n,k)=>if (k == NameKind.free && env.scope.kind == .function && env.kindOf n == some .cell) then (n,NameKind.cell) else (n,k)).lookup x=some k ->
    names.lookup x=some k\/(k=.cell/\names.lookup x=some .free)
  | [],_,h=>by simp at h
  | (n,q)::r,k,h=>by
    have ih:=@bK env x r k
    have h':List.lookup x ((if (q == NameKind.free && env.scope.kind == .function && env.kindOf n == some .cell)=true then (n,NameKind.cell) else (n,q))::_)=some k:=h
    cases hx:x == n with
    | true=>
      by_cases hc:(q == NameKind.free && env.scope.kind == .function && env.kindOf n == some .cell)=true
      · rw[if_pos hc] at h'
        simp only[List.lookup_cons,hx] at h' ⊢
        have eq:q=.free:=by simp only[Bool.and_eq_true,beq_iff_eq] at hc;exact hc.1.1
        cases h'
        exact .inr ⟨rfl,by rw[eq]⟩
      · rw[if_neg hc] at h'
        simp only[List.lookup_cons,hx] at h' ⊢
        exact .inl h'
    | false=>
      by_cases hc:(q == NameKind.free && env.scope.kind == .function && env.kindOf n == some .cell)=true
      · rw[if_pos hc] at h'
        simp only[List.lookup_cons,hx] at h' ⊢
        exact ih h'
      · rw[if_neg hc] at h'
        simp only[List.lookup_cons,hx] at h' ⊢
        exact ih h'
theorem cD {env:Env} {x:Str}:∀ {names:List (Str × NameKind)},names.lookup x=some .free ->
    (names.map fun (n,k)=>if (k == NameKind.free && env.scope.kind == .function && env.kindOf n == some .cell) then (n,NameKind.cell) else (n,k)).lookup x=some .cell \/
    (names.map fun (n,k)=>if (k == NameKind.free && env.scope.kind == .function && env.kindOf n == some .cell) then (n,NameKind.cell) else (n,k)).lookup x=some .free
  | [],h=>by simp at h
  | (n,q)::r,h=>by
    have ih:=@cD env x r
    show List.lookup x ((if (q == NameKind.free && env.scope.kind == .function && env.kindOf n == some .cell)=true then (n,NameKind.cell) else (n,q))::_)=some .cell\/List.lookup x ((if (q == NameKind.free && env.scope.kind == .function && env.kindOf n == some .cell)=true then (n,NameKind.cell) else (n,q))::_)=some .free
    cases hx:x == n with
    | true=>
      simp only[List.lookup_cons,hx] at h
      cases h
      by_cases hc:(NameKind.free == NameKind.free && env.scope.kind == .function && env.kindOf n == some .cell)=true
      · rw[if_pos hc];exact .inl (by simp only[List.lookup_cons,hx])
      · rw[if_neg hc];exact .inr (by simp only[List.lookup_cons,hx])
    | false=>
      simp only[List.lookup_cons,hx] at h
      by_cases hc:(q == NameKind.free && env.scope.kind == .function && env.kindOf n == some .cell)=true
      · rw[if_pos hc];simp only[List.lookup_cons,hx];exact ih h
      · rw[if_neg hc];simp only[List.lookup_cons,hx];exact ih h
def PIf (X:Cx) (ifs:List Expr) (t:TT):Prop:=
  ∀ (pins:List (Addr × Obj)) (s:Shared) (σ:St) (H:Hp) (Q:Bool->Hp->Prop),Inv X pins σ H s->t σ H Q ->
    wpAny (model X.prog X.w) X.A (forIn ifs true fun c r=>if r=true then do let ok <- isTrue c X.env (eval c X.env);pure (ForInStep.yield ok) else pure (ForInStep.yield r)) (TP X pins σ Q) X.xe s
def tYes:TT:=fun _ H Q=>Q true H
theorem pif_nil {X:Cx}:PIf X [] tYes:=fun _ _ _ H _ I h=>wpAny_tests_nil ⟨H,I,h⟩
theorem pif_one {X:Cx} {c:Expr} {t:TT} (h:PT X c t):PIf X [c] t:=fun pins s σ H Q I q=>wpAny_tests_one (h pins s σ H Q I q)
theorem eG {prog:Program} {w:World} {A:Around} {R:Result->Shared->Prop} {s:Shared} {elt target iter:Expr} {ifs:List Expr} {scope:Scope} {pos:Pos} {it acc:Value} {env:Env} (J:Nat->Shared->Prop)
    (turn:∀ n s0,J n s0->wpAny (model prog w) A (pyNext it) (fun r s1=>match r with
      | none=>R (.ok .next) s1
      | some v=>wpAny (model prog w) A (letOwnedTupleGo target it v) (fun _ s2=>wpAny (model prog w) A (assign target env v) (fun _ s3=>
          wpAny (model prog w) A (forIn ifs true fun c r=>if r=true then do let ok <- isTrue c env (eval c env);pure (ForInStep.yield ok) else pure (ForInStep.yield r)) (fun ok s4=>
            if ok=true then wpAny (model prog w) A (eval elt env) (fun x s5=>
              wpAny (model prog w) A (call (.builtin "list.append") [acc,x]) (fun _ s6=>∃ m,m < n/\J m s6) (fun _ _=>False) s5) (fun _ _=>False) s4
            else ∃ m,m < n/\J m s4) (fun _ _=>False) s3) (fun _ _=>False) s2) (fun _ _=>False) s1) (fun _ _=>False) s0)
    (n:Nat) (h:J n s):codeAny (model prog w) A (.compLoop (.ListComp elt [⟨target,iter,ifs,0⟩] scope pos) 0 it acc env) R s:=by
  have up:∀ {α:Type} {t:Sem α} {Q Q':α->Shared->Prop} {E:Value->Shared->Prop} {s0:Shared},wpAny (model prog w) A t Q (fun _ _=>False) s0->(∀ a s',Q a s'->Q' a s')->wpAny (model prog w) A t Q' E s0:=
    fun h0 hq=>wpAny_mono h0 hq fun _ _ z=>z.elim
  refine codeAny_loop rfl J ?_ n h
  intro k s0 hJ
  show wpAny _ A ((compTurn (.ListComp elt [⟨target,iter,ifs,0⟩] scope pos) 0 it acc env).onRaise (fun x=>do noteFrame x env;theTreesLotGoes x)) _ _ s0
  refine wpAny_noted ?_
  rw[compTurn_list]
  refine wpAny_bind (wpAny_standAt (wpAny_bind (up (turn k s0 hJ) fun r s1 h1=>?_)))
  cases r with
  | none=>exact wpAny_pure h1
  | some v=>
    refine wpAny_bind (up h1 fun _ s2 h2=>wpAny_bind (up h2 fun _ s3 h3=>wpAny_bind (up h3 fun ok s4 h4=>?_)))
    cases ok with
    | false=>exact wpAny_pure ⟨rfl,h4⟩
    | true=>exact wpAny_bind (wpAny_bind (up h4 fun x s5 h5=>wpAny_bind (up h5 fun _ s6 h6=>wpAny_pure (wpAny_pure ⟨rfl,h6⟩))))
def fK (J:It) (js:List Nat) (tc:TT) (te:TE) (σ:St) (Q:VK) (D:Addr) (H1:Hp):Prop:=∃ W:Nat->Nat->List V->Hp->Prop,(∃ m,W 0 m [] (upd H1 D (.lst []))) /\
  ∀ i m acc H,W i m acc H->H D=some (.lst acc)/\acc.length < sizeLine/\((J.stop i H/\Q (.ref D) H)\/(J.go i H/\∀ x H',J.yld i H x H'->tc (some x::bh js σ) H' fun c H3=>
    if c=true then te (some x::bh js σ) H3 fun y H4=>H4 D=some (.lst acc)/\∃ m',m' < m/\W (i+1) m' (acc++[y]) (upd H4 D (.lst (acc++[y]))) else ∃ m',m' < m/\W (i+1) m' acc H3))
def tComp (wi:TI) (js:List Nat) (tc:TT) (te:TE):TE:=fun σ H Q=>wi σ H fun J H1=>∀ D,H1 D=none->fK J js tc te σ Q D H1
theorem pe_comp {X:Cx} {elt iter:Expr} {ifs:List Expr} {sc:Scope} {pos px:Pos} {t:Str} {ys:List Str} {js:List Nat} {wi:TI} {tc:TT} {te:TE} (hc:X.calm=true) (hck:compChk X.N X.env.scope sc t ys js=true)
    (hi:PI X (.Name t px) iter wi) (hf:∀ cl C s H fp,PIf (X.comp sc cl C (t::ys) s H fp) ifs tc) (he:∀ cl C s H fp,PE (X.comp sc cl C (t::ys) s H fp) elt te)
    (hs:∀ x,foldedSetIterable iter X.env x=pure x:=by intro _;rfl):PE X (.ListComp elt [⟨.Name t px,iter,ifs,0⟩] sc pos) (tComp wi js tc te):=by
  have ck:=iL hck
  intro pins s σ H Q I h
  have hfr:∀ x,(x,NameKind.free) ∈ sc.names->∃ c,X.env.cells.lookup x=some c:=fun x hx=>I.ok.has x (.inl (ck.fre _ hx rfl))
  obtain⟨cl,hcl,cl1,cl2⟩:=jy hfr
  rw[eval_ListComp]
  refine wpAny_comprehension_free (use:=none) rfl hs hcl ck.kind ck.loc (thn (hi pins s σ H _ I h) fun v s1 h1=>thn h1 fun itv s2 h2=>?_)
  obtain⟨it,fp,tn,J,H2,e,I2,T,st2,f2,hR⟩:=h2
  subst e
  refine wpAny_newObj_type (wpAny_newFunctionEnv ck.ncell (by intro y hy;simp at hy) (fun h1 hns hsb=>?_) ck.kind)
  dsimp only at hns hsb ⊢
  generalize hp:s2.heap.push { cls:=.type "list",dict:=none,data:=.seq ([]:List Value).toArray }=hh at hns hsb ⊢
  have hC:hh.objs.size=s2.heap.objs.size+1:=by rw[<- hp,Heap.size_push]
  have neD:∀ {b:Addr},b < s2.heap.objs.size->b ≠ s2.heap.objs.size:=fun hb=>Nat.ne_of_lt hb
  have neC:∀ {b:Addr},b < s2.heap.objs.size->b ≠ hh.objs.size:=fun hb=>by rw[hC];exact Nat.ne_of_lt (Nat.lt_succ_of_lt hb)
  have hDC:s2.heap.objs.size ≠ hh.objs.size:=by rw[hC];exact Nat.ne_of_lt (Nat.lt_succ_self _)
  have hCle:s2.heap.objs.size <= hh.objs.size:=by rw[hC];exact Nat.le_succ _
  have old:∀ b o,s2.heap.get? b=some o->h1.get? b=some o:=fun b o e=>hsb.extBut b o (neC (Heap.lt_size e)) (Heap.get?_push_of_some _ (hp ▸ Heap.get?_push_of_some _ e))
  have hnew:h1.get? s2.heap.objs.size=some { cls:=.type "list",dict:=none,data:=.seq ([]:List Value).toArray }:=hsb.extBut _ _ hDC (Heap.get?_push_of_some _ (hp ▸ Heap.get?_push_size _ rfl))
  have fpH:∀ b ∈ fp,∃ o,s2.heap.get? b=some o:=fun b hb=>let ⟨o,e,_⟩:=T.obj 0 _ st2 b hb;⟨o,e⟩
  have fpD:∀ b ∈ fp,b ≠ s2.heap.objs.size:=fun b hb=>by obtain⟨o,e⟩:=fpH b hb;exact neD (Heap.lt_size e)
  have fpC:∀ b ∈ fp,b ≠ hh.objs.size:=fun b hb=>by obtain⟨o,e⟩:=fpH b hb;exact neC (Heap.lt_size e)
  have fpS:∀ b ∈ fp,b ∉ frs X.stack:=fun b hb z=>(List.mem_cons.mp (I2.stkSub b z)).elim (f2 b hb).2.1 (f2 b hb).2.2.1
  have hok':(X.comp sc cl hh.objs.size (t::ys) s2 H2 fp).Ok:=by
    refine⟨I2.ok.mod,ck.kind,I2.ok.glob,I2.ok.blt,hCle,fun x y c a b=>I2.ok.inj x y c (cl1 x c a) (cl1 y c b),fun x hx=>?_,(fun x c z=>nomatch z),I2.ok.hd,I2.ok.frames,.inl rfl,fun b hb=>⟨fpC b hb,fun x c a=>(f2 b hb).2.2.2.2.1 x c (cl1 x c a)⟩,
      I2.bs,Nat.le_trans I2.ok.bsz I2.sz,fun b o e hb=>?_,fun b hb=>fpS b hb,I2.stack,I2.stkFree⟩
    · have hx':(sc.names.map fun (n,k)=>if (k == NameKind.free && X.env.scope.kind == .function && X.env.kindOf n == some .cell) then (n,NameKind.cell) else (n,k)).lookup x=some .cell\/(sc.names.map fun (n,k)=>if (k == NameKind.free && X.env.scope.kind == .function && X.env.kindOf n == some .cell) then (n,NameKind.cell) else (n,k)).lookup x=some .free:=hx
      rcases hx' with z | z
      · rcases bK z with q | ⟨_,q⟩
        · exact absurd rfl (ck.ncell _ (PySem.mem_of_lookup q))
        · exact cl2 x (PySem.mem_of_lookup q)
      · rcases bK z with q | ⟨q,_⟩
        · exact cl2 x (PySem.mem_of_lookup q)
        · cases q
    · rcases (f2 b hb).2.2.2.1 with z | z
      · exact I2.ok.noex b o e z
      · exact absurd (Nat.lt_of_lt_of_le (Heap.lt_size e) (Nat.le_trans I2.ok.bsz z)) (Nat.lt_irrefl _)
  have Iin:∀ tk:Nat,Inv (X.comp sc cl hh.objs.size (t::ys) s2 H2 fp) [] (none::bh js σ) (upd H2 s2.heap.objs.size (.lst [])) { s2 with heap:=h1,toks:=tk }:=fun tk=>by
    refine⟨hok',rfl,I2.bare,Un.laid old (Nat.le_refl _) I2.fresh,⟨_,hns,fun i x v e1 e2 e3=>?_⟩,fun x c e=>?_,?_,fun x c e=>?_,fun p hp=>absurd (show p ∈ ([]:List (Addr × Obj)) from hp) (by simp),I2.hok.laid old (Nat.le_refl _) ⟨Nat.zero_le _,[],0,.nil,hnew⟩,?_⟩
    · cases i with
      | zero=>simp at e2
      | succ k=>
        have e1':ys[k]?=some x:=e1
        have e2':(bh js σ)[k]?=some (some v):=by simpa using e2
        unfold bh at e2'
        rw[List.getElem?_map] at e2'
        have q:=congrArg (fun l=>l[k]?) ck.ysj
        simp only[List.getElem?_map,e1',Option.map_some] at q
        cases hj:js[k]? with
        | none=>rw[hj] at q;cases q
        | some j=>
          rw[hj] at q e2'
          have q1:X.N[j]?=some x:=(Option.some.inj q).symm
          have q2:σ[j]?=some (some v):=by
            have z:(σ[j]?).join=some v:=Option.some.inj e2'
            cases hz:σ[j]? with
            | none=>rw[hz] at z;cases z
            | some y=>rw[hz] at z;exact congrArg some z
          have hf':=ck.ysf x (List.mem_of_getElem? e1')
          have hcell:=ck.fre _ (PySem.mem_of_lookup hf') rfl
          obtain⟨m2,hn2,hl2⟩:=I2.loc
          obtain⟨u,ru,lk⟩:=hl2 j x v q1 q2 (.inr (.inl hcell))
          refine⟨u,ru,?_⟩
          rcases lk with ⟨kk,_⟩ | ⟨_,c,ec,ic⟩
          · have kk':X.env.scope.names.lookup x=some .local:=kk
            have hcell':X.env.scope.names.lookup x=some .cell:=hcell
            rw[hcell'] at kk';cases kk'
          · obtain⟨c',ec'⟩:=cl2 x (PySem.mem_of_lookup hf')
            have:c'=c:=Option.some.inj ((cl1 x c' ec').symm.trans ec)
            subst this
            refine .inr ⟨cD hf',c',ec',?_⟩
            obtain⟨o,ho,hd⟩:=ic
            exact⟨o,old _ o ho,hd⟩
    · obtain⟨v,o,ho,hd⟩:=I2.cell x c (cl1 x c e)
      exact⟨v,o,old _ o ho,hd⟩
    · show upd H2 s2.heap.objs.size _ hh.objs.size=none
      rw[av (Ne.symm hDC)]
      exact I2.hok.fresh hCle
    · obtain⟨v,o,ho,hd⟩:=I2.cell x c (cl1 x c e)
      rw[av (neD (Heap.lt_size ho))]
      exact I2.freeC x c (cl1 x c e)
    · show (none::bh js σ).length=(t::ys).length
      have q:=congrArg List.length ck.ysj
      simp only[List.length_map] at q
      unfold bh
      simp only[List.length_cons,List.length_map]
      omega
  have st1:tn 0 h1:=T.keep _ _ _ st2 fun b hb o e=>old b o e
  obtain⟨W,⟨m0,w0⟩,turn⟩:=hR s2.heap.objs.size I2.fresh
  have fpok:∀ {H':Hp},(∀ b ∈ fp,H' b=none)->∀ b ∈ fp,mE (X.comp sc cl hh.objs.size (t::ys) s2 H2 fp) [] H' b:=fun hn b hb=>
    ⟨hn b hb,fpC b hb,fpS b hb,.inl hb,fun x c a=>(f2 b hb).2.2.2.2.1 x c (cl1 x c a),fun p hp=>absurd (show p ∈ ([]:List (Addr × Obj)) from hp) (by simp)⟩
  have ndN:(t::ys).Nodup:=ck.nd
  have loop:∀ s3:Shared,s3={ s2 with heap:=h1,toks:=s2.toks+([]:List (Str × Value)).length } ->
      codeAny (model X.prog X.w) X.A (.compLoop (.ListComp elt [⟨.Name t px,iter,ifs,0⟩] sc pos) 0 (.ref it) (.ref s2.heap.objs.size) (compEnvC sc cl hh.objs.size X.env))
        (compPost (model X.prog X.w) X.A X.xe none (EP X pins σ Q) (.ref s2.heap.objs.size) hh.objs.size) s3:=by
    rintro s3 rfl
    refine eG (fun n s'=>∃ i acc H',Inv (X.comp sc cl hh.objs.size (t::ys) s2 H2 fp) [] (none::bh js σ) H' s'/\tn i s'.heap/\(∀ b ∈ fp,H' b=none)/\W i n acc H') ?_ m0
      ⟨0,[],_,Iin _,st1,fun b hb=>by rw[av (fpD b hb)];exact (f2 b hb).1,w0⟩
    rintro n s3 ⟨i,acc,H3,I3,st3,fr3,w3⟩
    obtain⟨hD,hz,alt⟩:=turn i n acc H3 w3
    rcases alt with ⟨stop,q⟩ | ⟨go,step⟩
    · refine thn (T.done (X.comp sc cl hh.objs.size (t::ys) s2 H2 fp) rfl rfl rfl hc i [] s3 _ H3 _ I3 (fpok fr3) st3 stop) fun r s4 ⟨hr,I4⟩=>?_
      subst hr
      obtain⟨m,hn,_⟩:=id I4.loc
      refine⟨m,hn,fun h' sb=>⟨.ref s2.heap.objs.size,H3,?_,rfl,q⟩⟩
      have ltC:∀ b o,s2.heap.get? b=some o->b ≠ hh.objs.size:=fun b o e=>neC (Heap.lt_size e)
      have b4:Un (frs X.stack) fp H2 H3 s2.heap s4.heap:=I4.base
      refine I2.call' (s':={ s4 with heap:=h' }) (ch:=fp) I4.os ⟨fun b o e n1 n2 n3=>(sb.2 b (ltC b o e)).trans (b4.keep b o e n1 n2 n3),fun b o e n1 n2 n3=>?_,b4.free,fun b o e n1=>?_,b4.tups,b4.frzs,b4.tbls⟩ (fun b ob e=>?_) I4.bare
        (fun b hb=>⟨(f2 b hb).2.2.2.1,(f2 b hb).2.1,(f2 b hb).2.2.2.2.1,(f2 b hb).2.2.2.2.2⟩)
      · obtain⟨sl,e1⟩:=b4.slot b o e n1 n2 n3
        exact⟨sl,(sb.2 b (ltC b o e)).trans e1⟩
      · obtain⟨o',e1⟩:=b4.there b o e n1
        exact⟨o',(sb.2 b (ltC b o e)).trans e1⟩
      · have hfree:H3 hh.objs.size=none:=I4.free
        refine (I4.hok b ob e).stay (fun c w' hc' q'=>(sb.2 c ?_).trans q') (fun _ q'=>q') fun _ _ q'=>q'
        rintro rfl
        rcases hc' with rfl | hc'
        · rw[hfree] at e;cases e
        · rw[hfree] at hc';cases hc'
    · refine thn (T.item (X.comp sc cl hh.objs.size (t::ys) s2 H2 fp) rfl rfl rfl hc i [] s3 _ H3 _ I3 (fpok fr3) st3 go) fun r s4 ⟨u,hr,h4⟩=>?_
      subst hr
      refine thn h4 fun _ s5 ⟨x,H5,I5,r5,y5,st5,fr5⟩=>?_
      have I5':=I5.pinned (fpok fr5) (T.obj _ _ st5)
      refine wpAny_assign_Name (dR (i:=0) I5' ndN rfl (.inl (lookup_relabel_local ck.tl)) r5 (fun s6 I6=>?_) (.inr (lookup_relabel_local ck.tl)))
      have again:∀ {H7:Hp} {s7:Shared} {m':Nat} {acc':List V},Inv (X.comp sc cl hh.objs.size (t::ys) s2 H2 fp) ([]++eX fp s5.heap) (some x::bh js σ) H7 s7->m' < n->W (i+1) m' acc' H7 ->
          ∃ m,m < n/\∃ i acc H',Inv (X.comp sc cl hh.objs.size (t::ys) s2 H2 fp) [] (none::bh js σ) H' s7/\tn i s7.heap/\(∀ b ∈ fp,H' b=none)/\W i m acc H':=fun {H7 s7 m' acc'} I7 hm w7=>by
        refine⟨m',hm,i+1,acc',H7,(I7.unpinned).weak rfl (fun k v e=>?_),T.keep _ _ _ st5 fun b hb o e=>(I7.pin (b,o) (List.mem_append_right _ (List.mem_append_right _ (bN hb e)))).1,fun b hb=>?_,w7⟩
        · cases k with
          | zero=>simp at e
          | succ k=>simpa using e
        · obtain⟨o,e,d⟩:=T.obj _ _ st5 b hb
          exact (I7.pin (b,o) (List.mem_append_right _ (List.mem_append_right _ (bN hb e)))).2.1
      refine thn (hf _ _ _ _ _ _ s6 _ H5 _ I6 (step x H5 y5)) fun ok s7 ⟨H7,I7,q7⟩=>?_
      cases ok with
      | false=>
        obtain⟨m',hm,w7⟩:=q7
        exact again I7 hm w7
      | true=>
        refine thn (he _ _ _ _ _ _ s7 _ H7 _ I7 q7) fun uy s8 ⟨y,H8,I8,r8,hD8,m',hm,w8⟩=>?_
        refine thn (bg (X:=X.comp sc cl hh.objs.size (t::ys) s2 H2 fp) _ s8 _ H8 (.ref s2.heap.objs.size) [y] (.ref s2.heap.objs.size) [uy] (fun _ H9=>W (i+1) m' (acc++[y]) H9) I8 rfl (.cons r8 .nil) ⟨_,acc,y,rfl,rfl,hD8,hz,w8⟩) fun _ s9 ⟨_,H9,I9,_,q9⟩=>?_
        exact again I9 hm q9
  exact codeAny_compStart_list (loop _ rfl) (T.self _ 0 _ _ _ st1 (loop _ rfl))
theorem eF {n i m:Nat} {A B:Prop} (hi:i < n) (hm:m=n - i) (a:A) (b:B):A/\∃ m',m' < m/\(m'=n - (i+1)/\i+1 <= n/\B):=⟨a,n - (i+1),by omega,rfl,hi,b⟩
theorem cr {lo:Int} {n:Nat} {js:List Nat} {te:TE} {σ:St} {Q:VK} {D:Addr} {H1:Hp} (Pv:Nat->List V->Hp->Prop) (hz:n < sizeLine) (h0:Pv 0 [] (upd H1 D (.lst [])))
    (hl:∀ i acc H,Pv i acc H->H D=some (.lst acc)/\acc.length=i)
    (hs:∀ i m acc H,i < n->Pv i acc H->m=n - i->te (some (.int (lo+i))::bh js σ) H fun y H4=>H4 D=some (.lst acc)/\∃ m',m' < m/\(m'=n - (i+1)/\i+1 <= n/\Pv (i+1) (acc++[y]) (upd H4 D (.lst (acc++[y])))))
    (hd:∀ acc H,Pv n acc H->Q (.ref D) H):fK (Itr lo n) js tYes te σ Q D H1:=by
  refine⟨fun i m acc H=>m=n - i/\i <= n/\Pv i acc H,⟨n,by simp,Nat.zero_le _,h0⟩,?_⟩
  rintro i m acc H ⟨hm,hi,p⟩
  obtain⟨hD,hlen⟩:=hl i acc H p
  refine⟨hD,by omega,?_⟩
  by_cases hlt:i < n
  · refine .inr ⟨hlt,fun x H' y=>?_⟩
    obtain⟨e,y⟩:=y
    subst e y
    unfold tYes
    dsimp only
    rw[if_pos rfl]
    exact hs i m acc _ hlt p hm
  · have e:i=n:=by omega
    subst e
    exact .inl ⟨Nat.le_refl _,hd acc H p⟩
theorem gY {K:W.Frag} {a:Addr} {xs:List V} {js:List Nat} {te:TE} {σ:St} {Q:VK} {D:Addr} {H1:Hp} (Pv:Nat->List V->Hp->Prop) (hz:xs.length < sizeLine) (h0:Pv 0 [] (upd H1 D (.lst [])))
    (hl:∀ i acc H,Pv i acc H->H D=some (.lst acc)/\acc.length=i/\SqL K H a xs)
    (hs:∀ i m x acc H,xs[i]?=some x->Pv i acc H->m=xs.length - i->te (some x::bh js σ) H fun y H4=>H4 D=some (.lst acc)/\∃ m',m' < m/\(m'=xs.length - (i+1)/\i+1 <= xs.length/\Pv (i+1) (acc++[y]) (upd H4 D (.lst (acc++[y])))))
    (hd:∀ acc H,Pv xs.length acc H->Q (.ref D) H):fK (Itl K a) js tYes te σ Q D H1:=by
  refine⟨fun i m acc H=>m=xs.length - i/\i <= xs.length/\Pv i acc H,⟨xs.length,by simp,Nat.zero_le _,h0⟩,?_⟩
  rintro i m acc H ⟨hm,hi,p⟩
  obtain⟨hD,hlen,hq⟩:=hl i acc H p
  refine⟨hD,by omega,?_⟩
  by_cases hlt:i < xs.length
  · refine .inr ⟨⟨xs,xs[i],hq,by simp[hlt]⟩,fun x H' y=>?_⟩
    obtain⟨e,y⟩:=y
    subst e
    unfold tYes
    dsimp only
    rw[if_pos rfl]
    exact hs i m x acc _ (y xs hq) p hm
  · have e:i=xs.length:=by omega
    subst e
    exact .inl ⟨⟨xs,hq,Nat.le_refl _⟩,hd acc H p⟩
theorem ko {K:W.Frag} {a:Addr} {xs:List V} {js:List Nat} {te:TE} {σ:St} {Q:VK} {D:Addr} {H1:Hp} (Pv:Nat->List V->Hp->Prop) (hz:xs.length < sizeLine) (h0:Pv 0 [] (upd H1 D (.lst [])))
    (hl:∀ i acc H,Pv i acc H->H D=some (.lst acc)/\acc.length=i/\SqT K H a xs)
    (hs:∀ i m x acc H,xs[i]?=some x->Pv i acc H->m=xs.length - i->te (some x::bh js σ) H fun y H4=>H4 D=some (.lst acc)/\∃ m',m' < m/\(m'=xs.length - (i+1)/\i+1 <= xs.length/\Pv (i+1) (acc++[y]) (upd H4 D (.lst (acc++[y])))))
    (hd:∀ acc H,Pv xs.length acc H->Q (.ref D) H):fK (Itt K a) js tYes te σ Q D H1:=by
  refine⟨fun i m acc H=>m=xs.length - i/\i <= xs.length/\Pv i acc H,⟨xs.length,by simp,Nat.zero_le _,h0⟩,?_⟩
  rintro i m acc H ⟨hm,hi,p⟩
  obtain⟨hD,hlen,hq⟩:=hl i acc H p
  refine⟨hD,by omega,?_⟩
  by_cases hlt:i < xs.length
  · refine .inr ⟨⟨xs,xs[i],hq,by simp[hlt]⟩,fun x H' y=>?_⟩
    obtain⟨e,y⟩:=y
    subst e
    unfold tYes
    dsimp only
    rw[if_pos rfl]
    exact hs i m x acc _ (y xs hq) p hm
  · have e:i=xs.length:=by omega
    subst e
    exact .inl ⟨⟨xs,hq,Nat.le_refl _⟩,hd acc H p⟩
end L2
namespace L2
open PySem PySem.Spec PyProof.Rows
section
variable {X:Cx}
def yJ:V->Option Int->Option Int->Hp->VK->Prop:=fun x lo hi H Q=>∃ z,x=.str z/\z.length <= sizeLine/\Q (.str (Txt.slice z lo hi)) H
theorem rP:SlR X yJ:=by
  intro pins s σ H x v vl vu lo hi sl Q I rx hs pl pu h
  obtain⟨z,rfl,hz,q⟩:=h
  obtain⟨t,rfl⟩:=rx
  have fin:∀ (c:Prop) [Decidable c] (y w:Str),(if c then y else w)=Txt.slice z lo hi->(if c then Made.val (.str y t) else Made.str w).post (EP X pins σ Q) s:=fun c _ y w e=>
    post_val_or_str ⟨by rw[e];exact Nat.le_trans (Txt.slice_le z _ _) hz,fun t' k=>by rw[e];exact⟨.str _,H,I.tok k,⟨t',rfl⟩,q⟩⟩
  refine⟨"str",_,F.slot_str_getitem.lookup,typeIs_str _ _ _,?_⟩
  cases pl with
  | none=>
    cases pu with
    | none=>exact wpAny_getItem_str_slice (l:=none) (u:=none) (st:=none) hs rfl (fin _ _ _ rfl)
    | int j tj=>exact wpAny_getItem_str_slice (l:=none) (u:=some (j,tj)) (st:=none) hs rfl (fin _ _ _ rfl)
  | int i ti=>
    cases pu with
    | none=>exact wpAny_getItem_str_slice (l:=some (i,ti)) (u:=none) (st:=none) hs rfl (fin _ _ _ rfl)
    | int j tj=>exact wpAny_getItem_str_slice (l:=some (i,ti)) (u:=some (j,tj)) (st:=none) hs rfl (fin _ _ _ rfl)
theorem ac {H:Hp} {p:Addr} (h:H p=none) (o:HO):Same H (upd H p o):=fun b u q=>by rw[av (aG q h)];exact q
theorem Same.tupS {K:W.Frag} {H H':Hp} {a:Addr} {xs:List V} (e:Same H H') (h:SqT K H a xs):SqT K H' a xs:=by
  rcases h with (h | ⟨o,h⟩) | h
  · exact .inl (.inl (e _ _ h))
  · exact .inl (.inr ⟨o,e _ _ h⟩)
  · exact .inr h
noncomputable def xV:R2:=fun x y H Q=>∃ a b xs ys,x=.ref a/\y=.ref b/\H a=some (.tup xs)/\H b=some (.tup ys)/\xs.length+ys.length <= sizeLine /\
  ∀ p H',Same H H'->H' p=some (.tup (xs++ys))->Q (.ref p) H'
theorem rD {prog:Program} {w:World} {A:Around} {E:Value->Shared->Prop} {s:Shared} {t b:Addr} {vs ws:List Value} {Q:Value->Shared->Prop} (ht:IsTup s.heap t vs.toArray) (hb:IsTup s.heap b ws.toArray) (hv:vs=[]) (h:Q (.ref b) s) :
    wpAny (model prog w) A (binaryOp .Add (.ref t) (.ref b)) Q E s:=by
  obtain⟨⟨cls,dd,data,sl⟩,ho,hc,n,hd⟩:=id ht
  obtain⟨⟨cls2,dd2,data2,sl2⟩,ho2,hc2,n2,hd2⟩:=id hb
  simp only at hc hd hc2 hd2
  subst hc hd hc2 hd2
  refine concat_meets ⟨_,ho,rfl⟩ ⟨_,ho2,rfl⟩ noFill_tuple_add seq_tuple_add PySem.F.slot_tuple_add PySem.F.entry_tuple_add (PySem.F.args_tuple_add_2 _ _) (tuple_addW0 t b vs.toArray ws.toArray n n2 dd dd2 sl sl2 (by simp[hv])) ⟨ho,ho2,h⟩
theorem cy:OpR X (binaryOp .Add) xV:=by
  intro pins s σ H x y v u Q I rx ry h
  obtain⟨a,b,xs,ys,e1,e2,ha,hb,hz,q⟩:=h
  by_cases hx:xs=[]
  · subst e1 e2 hx
    cases rx
    cases ry
    obtain⟨its,r1,p1,_⟩:=I.tuple (.of ha)
    obtain⟨its2,r2,p2,_⟩:=I.tuple (.of hb)
    exact rD p1 p2 (by cases r1;rfl) ⟨.ref b,H,I,rfl,q b H (Same.refl H) hb⟩
  · refine ug pins s σ H x y v u Q I rx ry ⟨a,b,xs,ys,e1,e2,.of ha,.of hb,hx,hz,fun hy=>q a H (Same.refl H) (by rw[hy,List.append_nil];exact ha),fun _ p hp=>q p _ (ac hp _) aa⟩
theorem dN {prog:Program} {w:World} {A:Around} {E:Value->Shared->Prop} {s:Shared} {t sl:Addr} {items:Array Value} {vl vu:Value} {lo hi:Option Int} {Q:Value->Shared->Prop} (ht:IsTup s.heap t items) (hs:s.heap.IsSliceOf sl vl vu .none) (pl:IsPart vl lo) (pu:IsPart vu hi)
    (hw:HT.sIx items.size 0 lo=0/\HT.sIx items.size items.size hi=items.size) (h:Q (.ref t) s):wpAny (model prog w) A (getItem (.ref t) (.ref sl)) Q E s:=by
  obtain⟨os,hos,hcs,hds⟩:=id hs
  have hTs:s.TypeIs (.ref sl) "slice":=⟨os,hos,hcs⟩
  unfold getItem
  try with_reducible refine wpAny_holding ?_
  first | refine wpAny_bind (wpAny_pure ?_) | skip
  refine wpAny_bind (wpAny_sequenceKey ht.typeIs (by decide) ?_)
  refine wpAny_bind (wpAny_callSpecial?_slot (name:=Str.ofString "__getitem__") ht.typeIs PyProof.Rows.slot_tuple_getitem (wpAny_call_entry PyProof.Rows.slot_tuple_getitem ht.typeIs entry_tuple_getitem ?_ (args_tuple_getitem _ _)))
  show wpAny _ _ (Builtin.Tuple.tupleItemsOf (.ref t) >>= _) _ _ s
  refine wpAny_bind (tupleItemsOf_ ht ?_)
  refine wpAny_bind (wpAny_typeOf hTs ?_)
  rw[if_pos (by decide)]
  refine wpAny_bind (HT.sliceApplied_gen hs pl pu ?_)
  have yes:(((HT.sIx items.size 0 lo:Nat):Int) == 0 && (1:Int) == 1 && (HT.sIx items.size items.size hi - HT.sIx items.size 0 lo) == items.size)=true:=by
    rw[hw.1,hw.2]
    simp
  show wpAny _ _ (if (((HT.sIx items.size 0 lo:Nat):Int) == 0 && (1:Int) == 1 && (HT.sIx items.size items.size hi - HT.sIx items.size 0 lo) == items.size)=true then _ else _) _ _ s
  rw[if_pos yes]
  show wpAny _ _ (Builtin.Tuple.tupleIsExact (.ref t) >>= _) _ _ s
  unfold Builtin.Tuple.tupleIsExact
  refine wpAny_bind (wpAny_bind (wpAny_typeOf ht.typeIs (wpAny_pure ?_)))
  rw[if_pos (by decide)]
  first
    | exact wpAny_bind (wpAny_rule (wpAny_pure ⟨_,rfl,wpAny_pure h⟩))
    | exact wpAny_bind (wpAny_rule (wpAny_bind (wpAny_pure (wpAny_pure ⟨_,rfl,wpAny_pure h⟩))))
    | exact wpAny_bind (wpAny_rule (wpAny_bind (wpAny_pure ⟨_,rfl,wpAny_pure h⟩)))
def xS:V->Option Int->Option Int->Hp->VK->Prop:=fun x lo hi H Q=>∃ a xs,x=.ref a/\H a=some (.tup xs)/\∀ p H',Same H H'->H' p=some (.tup (fI xs lo hi))->Q (.ref p) H'
theorem eA:SlR X xS:=by
  intro pins s σ H x v vl vu lo hi sl Q I rx hs pl pu h
  obtain⟨a,xs,e,hx,q⟩:=h
  by_cases hw:HT.sIx xs.length 0 lo=0/\HT.sIx xs.length xs.length hi=xs.length
  · subst e
    cases rx
    obtain⟨its,r,ht,hz⟩:=I.tuple (.of hx)
    have hlen:its.toArray.size=xs.length:=by rw[List.size_toArray];exact r.length.symm
    refine⟨"tuple",_,PyProof.Rows.slot_tuple_getitem.lookup,ht.typeIs,dN ht hs pl pu (by rw[hlen];exact hw) ⟨.ref a,H,I,rfl,q a H (Same.refl H) ?_⟩⟩
    have ec:fI xs lo hi=xs:=by unfold fI;rw[hw.1,hw.2];simp
    rw[ec]
    exact hx
  · exact vY pins s σ H x v vl vu lo hi sl Q I rx hs pl pu ⟨a,xs,e,.of hx,hw,fun p hp=>q p _ (ac hp _) aa⟩
end
end L2
namespace L2
open PySem PySem.Spec PyProof.Rows
section
variable {X:Cx}
theorem aZ:CallR X (.builtin "isinstance") (fun xs H Q=>∃ x T t b,xs=[x,.ty T]/\mz X.K H x t/\PySem.W.kitOne X.K t (.type T)=some b/\Q (.bl b) H):=by
  intro pins s σ H xs us Q I r h
  obtain⟨x,T,t,b,rfl,ty,e,q⟩:=h
  obtain⟨u,w,rfl,ru,rw'⟩:=sQ r
  cases rw'
  exact oM I ru ty e fun tk=>⟨.bl b,H,I.tok tk,rfl,q⟩
end
end L2
namespace L2
open PySem PySem.Spec PyProof.Rows
section
variable {X:Cx} {es:List Expr} {te:TE} {t:TA} {env:Env}
theorem xz {a:List Expr} {k:Nat} {p:Pos}:starEach (.Tuple a k p::es) env=(false,eval (.Tuple a k p) env)::starEach es env:=by first | rfl | (rw[starEach];intro _ _ z;cases z)
theorem paT {a:List Expr} {k:Nat} {p:Pos} (ha:PE X (.Tuple a k p) te) (hr:PA X es t):PA X (.Tuple a k p::es) (tCons te t):=ce ha hr xz
theorem xE {a:List Expr} {p:Pos}:starEach (.List a p::es) env=(false,eval (.List a p) env)::starEach es env:=by first | rfl | (rw[starEach];intro _ _ z;cases z)
theorem paL {a:List Expr} {p:Pos} (ha:PE X (.List a p) te) (hr:PA X es t):PA X (.List a p::es) (tCons te t):=ce ha hr xE
theorem xJ {c:Const} {k:Nat} {p:Pos}:starEach (.Constant c k p::es) env=(false,eval (.Constant c k p) env)::starEach es env:=by first | rfl | (rw[starEach];intro _ _ z;cases z)
theorem paC {c:Const} {k:Nat} {p:Pos} (ha:PE X (.Constant c k p) te) (hr:PA X es t):PA X (.Constant c k p::es) (tCons te t):=ce ha hr xJ
theorem xC {x:Str} {p:Pos}:starEach (.Name x p::es) env=(false,eval (.Name x p) env)::starEach es env:=by first | rfl | (rw[starEach];intro _ _ z;cases z)
theorem paN {x:Str} {p:Pos} (ha:PE X (.Name x p) te) (hr:PA X es t):PA X (.Name x p::es) (tCons te t):=ce ha hr xC
theorem xK {l r:Expr} {o:Operator} {p:Pos}:starEach (.BinOp l o r p::es) env=(false,eval (.BinOp l o r p) env)::starEach es env:=by first | rfl | (rw[starEach];intro _ _ z;cases z)
theorem paB {l r:Expr} {o:Operator} {p:Pos} (ha:PE X (.BinOp l o r p) te) (hr:PA X es t):PA X (.BinOp l o r p::es) (tCons te t):=ce ha hr xK
theorem xB {v i:Expr} {p:Pos}:starEach (.Subscript v i p::es) env=(false,eval (.Subscript v i p) env)::starEach es env:=by first | rfl | (rw[starEach];intro _ _ z;cases z)
theorem paS {v i:Expr} {p:Pos} (ha:PE X (.Subscript v i p) te) (hr:PA X es t):PA X (.Subscript v i p::es) (tCons te t):=ce ha hr xB
theorem xF {f:Expr} {a:List Expr} {k:List Keyword} {p:Pos}:starEach (.Call f a k p::es) env=(false,eval (.Call f a k p) env)::starEach es env:=by first | rfl | (rw[starEach];intro _ _ z;cases z)
theorem paK {f:Expr} {a:List Expr} {k:List Keyword} {p:Pos} (ha:PE X (.Call f a k p) te) (hr:PA X es t):PA X (.Call f a k p::es) (tCons te t):=ce ha hr xF
theorem xD {l:Expr} {o:List CmpOp} {c:List Expr} {p:Pos}:starEach (.Compare l o c p::es) env=(false,eval (.Compare l o c p) env)::starEach es env:=by first | rfl | (rw[starEach];intro _ _ z;cases z)
theorem paM {l:Expr} {o:List CmpOp} {c:List Expr} {p:Pos} (ha:PE X (.Compare l o c p) te) (hr:PA X es t):PA X (.Compare l o c p::es) (tCons te t):=ce ha hr xD
theorem xH {c a b:Expr} {p:Pos}:starEach (.IfExp c a b p::es) env=(false,eval (.IfExp c a b p) env)::starEach es env:=by first | rfl | (rw[starEach];intro _ _ z;cases z)
theorem paI {c a b:Expr} {p:Pos} (ha:PE X (.IfExp c a b p) te) (hr:PA X es t):PA X (.IfExp c a b p::es) (tCons te t):=ce ha hr xH
theorem xy {o:UnaryOp} {v:Expr} {p:Pos}:starEach (.UnaryOp o v p::es) env=(false,eval (.UnaryOp o v p) env)::starEach es env:=by first | rfl | (rw[starEach];intro _ _ z;cases z)
theorem paU {o:UnaryOp} {v:Expr} {p:Pos} (ha:PE X (.UnaryOp o v p) te) (hr:PA X es t):PA X (.UnaryOp o v p::es) (tCons te t):=ce ha hr xy
theorem xI {e:Expr} {g:List Comprehension} {s:Scope} {p:Pos}:starEach (.ListComp e g s p::es) env=(false,eval (.ListComp e g s p) env)::starEach es env:=by first | rfl | (rw[starEach];intro _ _ z;cases z)
theorem paE {e:Expr} {g:List Comprehension} {s:Scope} {p:Pos} (ha:PE X (.ListComp e g s p) te) (hr:PA X es t):PA X (.ListComp e g s p::es) (tCons te t):=ce ha hr xI
theorem xG {v:List Expr} {p:Pos}:starEach (.JoinedStr v p::es) env=(false,eval (.JoinedStr v p) env)::starEach es env:=by first | rfl | (rw[starEach];intro _ _ z;cases z)
theorem paJ {v:List Expr} {p:Pos} (ha:PE X (.JoinedStr v p) te) (hr:PA X es t):PA X (.JoinedStr v p::es) (tCons te t):=ce ha hr xG
end
end L2
namespace L2
open PySem PySem.Spec PyProof.Rows
abbrev Big:Int:=1000000000000000000
theorem vy {c:Bool} {A B:Prop} (h:c=true) (q:A):if c=true then A else B:=by rw[if_pos h];exact q
theorem pN {c:Bool} {A B:Prop} (h:c=false) (q:B):if c=true then A else B:=by rw[if_neg (by rw[h];decide)];exact q
theorem xY {p:Prop} [Decidable p] {A B:Prop} (h:p) (q:A):if decide p=true then A else B:=by rw[if_pos (decide_eq_true h)];exact q
theorem xZ {p:Prop} [Decidable p] {A B:Prop} (h:¬ p) (q:B):if decide p=true then A else B:=by rw[if_neg (by rw[decide_eq_false h];decide)];exact q
theorem cW {p:Prop} [Decidable p] {A B:Prop} (h1:p->A) (h2:¬ p->B):if decide p=true then A else B:=by
  by_cases h:p
  · exact xY h (h1 h)
  · exact xZ h (h2 h)
section
variable {K:W.Frag}
theorem xr:PySem.W.kitOne K (.type "str") (.type "str")=some true:=by with_unfolding_all rfl
theorem yP:PySem.W.kitOne K (.type "tuple") (.type "str")=some false:=by with_unfolding_all rfl
theorem wX:PySem.W.kitOne K (.type "int") (.type "str")=some false:=by with_unfolding_all rfl
theorem yx:PySem.W.kitOne K (.type "tuple") (.type "tuple")=some true:=by with_unfolding_all rfl
theorem yy:PySem.W.kitOne K (.type "int") (.type "tuple")=some false:=by with_unfolding_all rfl
theorem yR:PySem.W.kitOne K (.type "int") (.type "int")=some true:=by with_unfolding_all rfl
theorem yS:PySem.W.kitOne K (.type "int") (.type "bool")=some false:=by with_unfolding_all rfl
theorem oO {H:Hp} (n:Int):Isd K H (.fl (.int n)) (.int n):=by unfold Isd;exact⟨rfl,rfl⟩
theorem uL {H:Hp} (n:Str):Isd K H (.fl (.str n)) (.str n):=by unfold Isd;exact⟨rfl,rfl⟩
theorem dq {H:Hp}:Isds K H [] []:=by unfold Isds;rfl
theorem cz {H:Hp} {d:Da} {ds:List Da} {v:V} {vs:List V} (h:Isd K H d v) (t:Isds K H ds vs):Isds K H (d::ds) (v::vs):=by unfold Isds;exact⟨_,_,rfl,h,t⟩
theorem fe {H:Hp}:∀ ns:List Int,Isds K H (ns.map fun n=>Da.fl (.int n)) (ns.map V.int)
  | []=>dq
  | n::ns=>cz (oO n) (fe ns)
end
theorem kj:∀ ns:List Int,cA (ns.map fun n=>Da.fl (.int n))=0
  | []=>by unfold cA;rfl
  | n::ns=>by
    rw[List.map_cons]
    unfold cA
    rw[kj ns]
    unfold km
    rfl
theorem bP {n:Nat} (h:n <= 100000):n <= sizeLine:=Nat.le_trans h (by decide)
theorem bM {n:Nat} (h:n <= 100000):n < sizeLine:=Nat.lt_of_le_of_lt h (by decide)
theorem aN {H H':Hp} {D:Addr} {o:HO} (hn:H D=none) (s:Same H H'):Same H (upd H' D o):=fun b u q=>by rw[av (aG q hn)];exact s b u q
theorem nj {n:Int} (h0:0 <= n) (h1:n < Big):n.natAbs.log2 < 1920:=by
  have h:n.natAbs < 2 ^ 60:=by
    have:n < 1152921504606846976:=by have:Big=1000000000000000000:=rfl;omega
    have e:(2:Nat) ^ 60=1152921504606846976:=by decide
    omega
  by_cases z:n.natAbs=0
  · rw[z]
    decide
  · exact Nat.lt_of_lt_of_le ((Nat.log2_lt z).mpr h) (by decide)
end L2
namespace L2
open PySem PySem.Spec PyProof.Rows
section
variable {X:Cx}
end
section
variable {prog:Program} {w:World} {A:Around} {R:Result->Shared->Prop} {I S l:Addr} {d:Value} {xs:Array (Int × Tok)}
end
section
variable {X:Cx}
theorem fV:OpR X (binaryOp .Mult) (fun x y H Q=>∃ z n,x=.str z/\y=.int n/\z.length <= 1000/\n <= 1000/\-1000 <= n/\Q (.str (Txt.mul z n)) H):=by
  intro pins s σ H x y v u Q I rx ry h
  obtain⟨z,n,rfl,rfl,h1,h2,h3,q⟩:=h
  obtain⟨t,rfl⟩:=rx
  obtain⟨t',rfl⟩:=ry
  refine SB.mul ⟨?_,fun hn _=>?_,fun hn _=>?_⟩ fun t' k=>⟨.str _,H,I.tok k,⟨t',rfl⟩,q⟩
  · rw[decide_eq_false (by omega),decide_eq_false (by omega)]
    rfl
  · have e:(1000:Int) <= (2 ^ 63 - 1) / n:=Int.le_ediv_of_mul_le (by omega) (by omega)
    omega
  · have hle:z.length * n.toNat <= 1000 * 1000:=Nat.mul_le_mul h1 (by omega)
    unfold PySem.Builtin.Str.tooLong
    simp only[decide_eq_false_iff_not]
    rw[sizeLine_eq]
    omega
noncomputable def pc (K:W.Frag) (H:Hp) (d:Da) (u:Value):Bool:=@decide (∃ e v,RelV v u/\Isd K H e v/\eqD e d=true) (Classical.propDecidable _)
theorem iT {pins:List (Addr × Obj)} {s:Shared} {σ:St} {H:Hp} (I:Inv X pins σ H s) (d:Da):∀ {ds:List Da} {xs:List V} {us:List Value},Isds X.K H ds xs->Vals xs us ->
    (∀ u ∈ us,∃ e v,RelV v u/\Isd X.K H e v/\e ∈ ds/\pc X.K H d u=eqD e d)/\us.any (pc X.K H d)=ds.any (fun e=>eqD e d)
  | [],xs,us,h,r=>by
    unfold Isds at h
    subst h
    cases r
    exact⟨(fun u hu=>nomatch hu),rfl⟩
  | e::ds,xs,us,h,r=>by
    unfold Isds at h
    obtain⟨v,vs,rfl,he,hs⟩:=h
    cases r with
    | cons r1 r2=>
      rename_i u us'
      obtain⟨ih1,ih2⟩:=iT I d hs r2
      have ee:pc X.K H d u=eqD e d:=by
        unfold pc
        cases hb:eqD e d with
        | true=>exact @decide_eq_true _ (Classical.propDecidable _) ⟨e,v,r1,he,hb⟩
        | false=>
          refine @decide_eq_false _ (Classical.propDecidable _) ?_
          rintro⟨e',v',r',he',hb'⟩
          have:v'=v:=r'.inj r1
          subst this
          have:e'=e:=Isd.inj I e' e he' he
          subst this
          rw[hb] at hb'
          cases hb'
      refine⟨fun u' hu=>?_,by rw[List.any_cons,List.any_cons,ee,ih2]⟩
      rcases List.mem_cons.mp hu with rfl | hu
      · exact⟨e,v,r1,he,List.mem_cons_self,ee⟩
      · obtain⟨e',v',a,b,c,q⟩:=ih1 u' hu
        exact⟨e',v',a,b,List.mem_cons_of_mem _ c,q⟩
theorem vc {ds:List Da} {e:Da} (h:e ∈ ds):km e <= cA ds:=by
  obtain⟨i,hi,rfl⟩:=List.mem_iff_getElem.mp h
  exact gX (j:=i) (List.getElem?_eq_getElem hi)
noncomputable def yt (K:W.Frag) (f:Bool->Bool):R2:=fun x y H Q=>∃ p xs d ds,y=.ref p/\SqL K H p xs/\Isd K H d x/\Isds K H ds xs/\cA ds <= 50/\Q (.bl (f (ds.any fun e=>eqD e d))) H
theorem ir (hu:X.A.units+64 < cLine):OpR X (compareOp .NotIn) (yt X.K not):=by
  intro pins s σ H x y v u Q I rx ry h
  obtain⟨p,xs,d,ds,rfl,hq,hd,hs,hz,q⟩:=h
  cases ry
  obtain⟨us,r1,p1,_⟩:=I.list hq
  obtain⟨a1,a2⟩:=iT I d hs r1
  refine SeqAt.notIn_listAt (pc X.K H d) p1.isList (fun w hw=>?_) ⟨.bl _,H,I,?_,q⟩
  · obtain⟨e,z,r,he,hm,ee⟩:=a1 w (by simpa using hw)
    rw[ee]
    exact oZ I 50 e d (Nat.le_trans (vc hm) hz) he hd r rx (by show X.A.units+1+50 < cLine;omega)
  · show Value.bool _=_
    rw[<- a2]
    simp
end
end L2
namespace L2
open PySem PySem.Spec PyProof.Rows
section
variable {X:Cx} {K:W.Frag}
theorem bF (h:X.K=K):IxR X (yq K):=h ▸ ar
theorem eN (h:X.K=K):IxR X (yr K):=h ▸ aS
theorem lX (h:X.K=K) (hu:X.A.units+64 < cLine):OpR X (compareOp .NotIn) (yt K not):=h ▸ ir hu
end
theorem cK {α:Type} {xs:List α} {i:Nat} {x:α} (h:xs[i]?=some x):xs.take (i+1)=xs.take i++[x]:=by
  rw[List.take_add_one,h]
  rfl
theorem aD {α:Type} {xs:List α} {i:Nat} {x:α} (h:xs[i]?=some x):i < xs.length:=(List.getElem?_eq_some_iff.mp h).1
theorem aH {α:Type} {xs:List α} {i:Nat} (h:i < xs.length):∃ x,xs[i]?=some x:=⟨_,List.getElem?_eq_getElem h⟩
section
variable {K:W.Frag} {a:Addr} {xs ys:List V} {js:List Nat} {tc:TT} {te:TE} {σ:St} {Q:VK} {D:Addr} {H1:Hp}
theorem pE (hz:xs.length < sizeLine) (hlen:ys.length=xs.length) (ha:SqT K H1 a xs) (hD:H1 D=none)
    (he:∀ (i:Nat) (x y:V) (H:Hp),xs[i]?=some x->ys[i]?=some y->Same H1 H->∀ Q':VK,(∀ H',Same H H'->Q' y H')->te (some x::bh js σ) H Q')
    (hq:∀ H',Same H1 H'->H' D=some (.lst ys)->Q (.ref D) H'):fK (Itt K a) js tYes te σ Q D H1:=by
  refine ko (K:=K) (a:=a) (xs:=xs) (fun i acc H=>i <= xs.length/\acc=ys.take i/\Same H1 H/\H D=some (.lst acc)) hz ⟨Nat.zero_le _,rfl,ac hD _,aa⟩ (fun i acc H ⟨l,e,s,d⟩=>⟨d,?_,Same.tupS s ha⟩) ?_ ?_
  · rw[e,List.length_take]
    omega
  · rintro i m x acc H hi ⟨l,e,s,d⟩ hm
    have hlt:=aD hi
    obtain⟨y,hy⟩:=aH (xs:=ys) (i:=i) (by omega)
    exact he i x y H hi hy s _ fun H' s'=>eF hlt hm (s' _ _ d) ⟨hlt,by rw[e,cK hy],aN hD (s.trans s'),aa⟩
  · rintro acc H ⟨l,e,s,d⟩
    rw[List.take_of_length_le (by omega)] at e
    exact hq H s (by rw[d,e])
theorem pF (hz:xs.length < sizeLine) (hlen:ys.length=xs.length) (ha:SqL K H1 a xs) (hD:H1 D=none)
    (he:∀ (i:Nat) (x y:V) (H:Hp),xs[i]?=some x->ys[i]?=some y->Same H1 H->∀ Q':VK,(∀ H',Same H H'->Q' y H')->te (some x::bh js σ) H Q')
    (hq:∀ H',Same H1 H'->H' D=some (.lst ys)->Q (.ref D) H'):fK (Itl K a) js tYes te σ Q D H1:=by
  refine gY (K:=K) (a:=a) (xs:=xs) (fun i acc H=>i <= xs.length/\acc=ys.take i/\Same H1 H/\H D=some (.lst acc)) hz ⟨Nat.zero_le _,rfl,ac hD _,aa⟩ (fun i acc H ⟨l,e,s,d⟩=>⟨d,?_,Same.seq s ha⟩) ?_ ?_
  · rw[e,List.length_take]
    omega
  · rintro i m x acc H hi ⟨l,e,s,d⟩ hm
    have hlt:=aD hi
    obtain⟨y,hy⟩:=aH (xs:=ys) (i:=i) (by omega)
    exact he i x y H hi hy s _ fun H' s'=>eF hlt hm (s' _ _ d) ⟨hlt,by rw[e,cK hy],aN hD (s.trans s'),aa⟩
  · rintro acc H ⟨l,e,s,d⟩
    rw[List.take_of_length_le (by omega)] at e
    exact hq H s (by rw[d,e])
noncomputable def cP (xs:List V) (ks:List Bool):List V:=(xs.zip ks).filterMap fun p=>if p.2=true then some p.1 else none
theorem oI {xs:List V} {ks:List Bool} {i:Nat} {x:V} {k:Bool} (hx:xs[i]?=some x) (hk:ks[i]?=some k):cP (xs.take (i+1)) (ks.take (i+1))=cP (xs.take i) (ks.take i)++(if k=true then [x] else []):=by
  have l1:=aD hx
  have l2:=aD hk
  unfold cP
  rw[cK hx,cK hk,List.zip_append (by rw[List.length_take,List.length_take];omega),List.filterMap_append]
  congr 1
  cases k <;> rfl
theorem gO (xs:List V) (ks:List Bool):(cP xs ks).length <= xs.length:=by
  unfold cP
  refine Nat.le_trans (List.length_filterMap_le _ _) ?_
  rw[List.length_zip]
  omega
theorem iK (ks:List Bool) (hz:xs.length < sizeLine) (hlen:ks.length=xs.length) (ha:SqL K H1 a xs) (hD:H1 D=none)
    (hc:∀ (i:Nat) (x:V) (k:Bool) (H:Hp),xs[i]?=some x->ks[i]?=some k->Same H1 H->∀ Q':Bool->Hp->Prop,(∀ H',Same H H'->Q' k H')->tc (some x::bh js σ) H Q')
    (he:∀ (x:V) (H:Hp) (Q':VK),Q' x H->te (some x::bh js σ) H Q')
    (hq:∀ H',Same H1 H'->H' D=some (.lst (cP xs ks))->Q (.ref D) H'):fK (Itl K a) js tc te σ Q D H1:=by
  refine⟨fun i m acc H=>m=xs.length - i/\i <= xs.length/\acc=cP (xs.take i) (ks.take i)/\Same H1 H/\H D=some (.lst acc),⟨xs.length,by simp,Nat.zero_le _,rfl,ac hD _,aa⟩,?_⟩
  rintro i m acc H ⟨hm,hi,e,s,d⟩
  have hla:acc.length <= i:=by
    rw[e]
    refine Nat.le_trans (gO _ _) ?_
    rw[List.length_take]
    omega
  refine⟨d,by omega,?_⟩
  by_cases hlt:i < xs.length
  · refine .inr ⟨⟨xs,xs[i],Same.seq s ha,by simp[hlt]⟩,fun x H' y=>?_⟩
    obtain⟨e1,y⟩:=y
    subst e1
    have hx:=y xs (Same.seq s ha)
    obtain⟨k,hk⟩:=aH (xs:=ks) (i:=i) (by omega)
    refine hc i x k _ hx hk s _ fun H' s'=>?_
    have step:=oI hx hk
    cases k with
    | true=>
      rw[if_pos rfl]
      rw[if_pos rfl] at step
      exact he x H' _ ⟨s' _ _ d,xs.length - (i+1),by omega,rfl,hlt,by rw[step,e],aN hD (s.trans s'),aa⟩
    | false=>
      rw[if_neg (by decide)]
      rw[if_neg (by decide),List.append_nil] at step
      exact⟨xs.length - (i+1),by omega,rfl,hlt,by rw[step,e],s.trans s',s' _ _ d⟩
  · have e0:i=xs.length:=by omega
    subst e0
    refine .inl ⟨⟨xs,Same.seq s ha,Nat.le_refl _⟩,hq H s ?_⟩
    rw[d,e,List.take_of_length_le (Nat.le_refl _),List.take_of_length_le (by omega)]
end
theorem rA {xs:List V} {k:Nat} (h:k <= xs.length):fI xs none (some (k:Int))=xs.take k:=by
  unfold fI
  rw[HT.sIx_none,HT.sIx_nat,Nat.min_eq_left h]
  simp
theorem rB {xs:List V} {k:Nat} (h:k <= xs.length):fI xs (some (k:Int)) none=xs.drop k:=by
  unfold fI
  rw[HT.sIx_none,HT.sIx_nat,Nat.min_eq_left h]
  rw[List.take_of_length_le (by rw[List.length_drop];omega)]
theorem bS (xs:List V) (k:Nat):fI xs none (some (k:Int))=xs.take k:=by
  by_cases h:k <= xs.length
  · exact rA h
  · unfold fI
    rw[HT.sIx_none,HT.sIx_nat,Nat.min_eq_right (by omega),List.drop_zero,Nat.sub_zero,List.take_of_length_le (Nat.le_refl _),List.take_of_length_le (by omega)]
theorem cR (xs:List V) (k:Nat):fI xs (some (k:Int)) none=xs.drop k:=by
  by_cases h:k <= xs.length
  · exact rB h
  · unfold fI
    rw[HT.sIx_none,HT.sIx_nat,Nat.min_eq_right (by omega),List.drop_of_length_le (Nat.le_refl _),List.drop_of_length_le (by omega)]
    exact List.take_nil
theorem dB {α:Type} (x:α) (r:List α):atI (x::r) 0=some x:=bt (j:=0) rfl
end L2
namespace L2
open PySem PySem.Spec PyProof.Rows
structure QE (X:Cx) (e:Expr) (t:TE):Prop where
  h:PE X e t
structure QA (X:Cx) (es:List Expr) (t:TA):Prop where
  h:PA X es t
structure QS (X:Cx) (st:Stmt) (t:TS):Prop where
  h:PS X st t
structure QSs (X:Cx) (b:List Stmt) (t:TS):Prop where
  h:PSs X b t
structure QT (X:Cx) (e:Expr) (t:TT):Prop where
  h:PT X e t
structure QW (X:Cx) (e:Expr) (t:TT):Prop where
  h:PW X e t
structure QI (X:Cx) (tg iter:Expr) (t:TI):Prop where
  h:PI X tg iter t
structure QG (X:Cx) (tg:Expr) (t:TG):Prop where
  h:PG X tg t
structure QGs (X:Cx) (ts:List Expr) (t:TGs):Prop where
  h:PGs X ts t
structure QO (X:Cx) (e:Option Expr) (t:TO):Prop where
  h:PO X e t
structure QIf (X:Cx) (ifs:List Expr) (t:TT):Prop where
  h:PIf X ifs t
theorem ag {X:Cx} {st:Stmt} {rest:List Stmt} {t:TS} {u:TS} (h1:QS X st t) (h2:QSs X rest u):QSs X (st::rest) (L2.tSeq t u):=⟨@L2.pss_cons _ _ _ _ _ h1.h h2.h⟩
theorem ai {X:Cx} {st:Stmt} {t:TS} (h1:QS X st t):QSs X [st] t:=⟨@L2.pss_one _ _ _ h1.h⟩
theorem am {X:Cx} {pos:Pos} {i:Nat} {x:Str} {e:Expr} {te:TE} {pos':Pos} (hN:List.Nodup (Cx.N X)) (hi:(Cx.N X)[i]?=Option.some x) (hx:Loc (PySem.Env.scope (Cx.env X)) x) (he:QE X e te) (hs:PySem.swapsWith e (Option.some (PySem.Expr.Name x pos')) (PySem.Pos.line pos) (Cx.env X)=Pure.pure Bool.false:=by rfl) (hf:Cx.fn X x=Bool.true\/List.lookup x (PySem.Scope.names (PySem.Env.scope (Cx.env X)))=Option.some PySem.NameKind.local:=by first | exact .inl rfl | exact .inr rfl | assumption):QS X (PySem.Stmt.Assign [PySem.Expr.Name x pos'] e pos) (L2.tAsg te (L2.gName i)):=⟨@L2.ps_set _ _ _ _ _ _ _ hN hi hx he.h hs hf⟩
theorem ik {X:Cx} {pos:Pos} {tg:Expr} {e:Expr} {te:TE} {g:TG} (he:QE X e te) (hg:QG X tg g) (hs:PySem.swapsWithSole [tg] e (PySem.Pos.line pos) (Cx.env X)=Pure.pure Bool.false:=by rfl) (hw:PySem.swappedStores [tg] e (Cx.env X)=Pure.pure Option.none:=by rfl) (h1:List.map (fun (x:Bool × (PySem.Value->PySem.Sem Unit))=>Prod.snd x) (PySem.assignEach [tg] (Cx.env X))=[PySem.assign tg (Cx.env X)]:=by rfl):QS X (PySem.Stmt.Assign [tg] e pos) (L2.tAsg te g):=⟨@L2.ps_asg _ _ _ _ _ _ he.h hg.h hs hw h1⟩
theorem bU {X:Cx} {e:Expr} {te:TE} {pos:Pos} (he:QE X e te) (hs:PySem.swapsWith e Option.none (PySem.Pos.line pos) (Cx.env X)=Pure.pure Bool.false:=by rfl):QS X (PySem.Stmt.Expr e pos) (L2.tDrop te):=⟨@L2.ps_expr _ _ _ _ he.h hs⟩
theorem ay {X:Cx} {e:Expr} {te:TE} {pos:Pos} (he:QE X e te):QS X (PySem.Stmt.Return (Option.some e) pos) (L2.tRet te):=⟨@L2.ps_ret _ _ _ _ he.h⟩
theorem bp {X:Cx} {t:TS} {u:TS} {pos:Pos} {c:Expr} {a:List Stmt} {b:List Stmt} {tc:TT} (hc:QT X c tc) (ha:QSs X a t) (hb:QSs X b u):QS X (PySem.Stmt.If c a b pos) (L2.tIfS tc t u):=⟨@L2.ps_if _ _ _ _ _ _ _ _ hc.h ha.h hb.h⟩
theorem bq {X:Cx} {tg:Expr} {iter:Expr} {body:List Stmt} {wi:TI} {g:TG} {tb:TS} {pos:Pos} (hp:PySem.PassesOwn (PySem.model (Cx.prog X) (Cx.w X)) (Cx.A X) (Cx.env X) (Cx.xe X)) (hc:Cx.calm X=Bool.true) (hi:QI X tg iter wi) (hg:QG X tg g) (hb:QSs X body tb) (hs:∀ (x:PySem.Value),PySem.foldedSetIterable iter (Cx.env X) x=Pure.pure x:=by intro _;rfl):QS X (PySem.Stmt.For tg iter body [] pos) (L2.tFor wi g tb):=⟨@L2.ps_for _ _ _ _ _ _ _ _ hp hc hi.h hg.h hb.h hs⟩
theorem jL {X:Cx} {pos:Pos} {c:Expr} {body:List Stmt} {tc:TT} {tb:TS} (hp:PySem.PassesOwn (PySem.model (Cx.prog X) (Cx.w X)) (Cx.A X) (Cx.env X) (Cx.xe X)) (hc:QT X c tc) (hb:QSs X body tb):QS X (PySem.Stmt.While c body [] pos) (L2.tWhile tc tb):=⟨@L2.ps_while _ _ _ _ _ _ hp hc.h hb.h⟩
theorem aj {X:Cx} {a:Expr} {b:Expr} {ta:TE} {tb:TE} {pos:Pos} {op:Operator} {r:R2} (ho:OpR X (PySem.binaryOp op) r) (ha:QE X a ta) (hb:QE X b tb):QE X (PySem.Expr.BinOp a op b pos) (L2.tOp r ta tb):=⟨@L2.pe_op _ _ _ _ _ _ _ _ ho ha.h hb.h⟩
theorem qf {X:Cx} {a:Expr} {ta:TE} {pos:Pos} {op:PySem.UnaryOp} {r:V->Hp->VK->Prop} (ho:UnR X (PySem.unaryOp op) r) (ha:QE X a ta):QE X (PySem.Expr.UnaryOp op a pos) (L2.tUn r ta):=⟨@L2.pe_un _ _ _ _ _ _ ho ha.h⟩
theorem wz {X:Cx} {a:Expr} {ta:TE} {pos:Pos} (ha:QE X a ta):QE X (PySem.Expr.UnaryOp PySem.UnaryOp.Not a pos) (L2.tNotV ta):=⟨@L2.pe_not _ _ _ _ ha.h⟩
theorem il {X:Cx} {a:Expr} {pos:Pos} {op:PySem.BoolOp} {t:TE} (h:QE X a t):QE X (PySem.Expr.BoolOp op [a] pos) t:=⟨@L2.pe_one _ _ _ _ _ h.h⟩
theorem im {X:Cx} {a:Expr} {b:Expr} {ta:TE} {tb:TE} {pos:Pos} {rest:List Expr} (ha:QE X a ta) (hb:QE X (PySem.Expr.BoolOp PySem.BoolOp.And (b::rest) pos) tb):QE X (PySem.Expr.BoolOp PySem.BoolOp.And (a::b::rest) pos) (L2.tAndV ta tb):=⟨@L2.pe_and _ _ _ _ _ _ _ ha.h hb.h⟩
theorem cS {X:Cx} {a:Expr} {b:Expr} {ta:TE} {tb:TE} {pos:Pos} {op:CmpOp} {r:R2} (ho:OpR X (PySem.compareOp op) r) (ha:QE X a ta) (hb:QE X b tb) (hm:PySem.behindInMarks op b=Bool.false):QE X (PySem.Expr.Compare a [op] [b] pos) (L2.tOp r ta tb):=⟨@L2.pe_cmpR _ _ _ _ _ _ _ _ ho ha.h hb.h hm⟩
theorem qh {X:Cx} {a:Expr} {b:Expr} {ta:TE} {tb:TE} {pos:Pos} {tA:TT} {c:Expr} (hc:QT X c tA) (ha:QE X a ta) (hb:QE X b tb):QE X (PySem.Expr.IfExp c a b pos) (L2.tIf tA ta tb):=⟨@L2.pe_ifExp _ _ _ _ _ _ _ _ hc.h ha.h hb.h⟩
theorem aV {X:Cx} {es:List Expr} {t:TA} {pos:Pos} (h:QA X es t):QE X (PySem.Expr.List es pos) (L2.tLst t):=⟨@L2.pe_lst _ _ _ _ h.h⟩
theorem ak {X:Cx} {es:List Expr} {t:TA} {pos:Pos} {x1:Nat} (h:QA X es t):QE X (PySem.Expr.Tuple es x1 pos) (L2.tTup t):=⟨@L2.pe_tup _ _ _ _ _ h.h⟩
theorem bc {X:Cx} {e:Expr} {te:TE} {lo:Option Expr} {hi:Option Expr} {tl:TO} {th:TO} {pos:Pos} {p2:Pos} {r:V->Option Int->Option Int->Hp->VK->Prop} (hr:SlR X r) (he:QE X e te) (hl:QO X lo tl) (hu:QO X hi th):QE X (PySem.Expr.Subscript e (PySem.Expr.Slice lo hi Option.none p2) pos) (L2.tSl r te tl th):=⟨@L2.pe_slice _ _ _ _ _ _ _ _ _ _ hr he.h hl.h hu.h⟩
theorem ao {X:Cx} {a:Expr} {b:Expr} {ta:TE} {tb:TE} {pos:Pos} {r:R2} (hr:IxR X r) (ha:QE X a ta) (hb:QE X b tb) (hs:pJ b):QE X (PySem.Expr.Subscript a b pos) (L2.tOp r ta tb):=⟨@L2.pe_ix _ _ _ _ _ _ _ hr ha.h hb.h hs⟩
theorem bH {X:Cx} {elt:Expr} {iter:Expr} {ifs:List Expr} {sc:PySem.Scope} {pos:Pos} {px:Pos} {t:Str} {ys:List Str} {js:List Nat} {wi:TI} {tc:TT} {te:TE} (hc:Cx.calm X=Bool.true) (hck:L2.compChk (Cx.N X) (PySem.Env.scope (Cx.env X)) sc t ys js=Bool.true) (hi:QI X (PySem.Expr.Name t px) iter wi) (hf:∀ (cl:List (Str × PySem.Addr)) (C:PySem.Addr) (s:PySem.Shared) (H:Hp) (fp:List PySem.Addr),QIf (Cx.comp X sc cl C (t::ys) s H fp) ifs tc) (he:∀ (cl:List (Str × PySem.Addr)) (C:PySem.Addr) (s:PySem.Shared) (H:Hp) (fp:List PySem.Addr),QE (Cx.comp X sc cl C (t::ys) s H fp) elt te) (hs:∀ (x:PySem.Value),PySem.foldedSetIterable iter (Cx.env X) x=Pure.pure x:=by intro _;rfl):QE X (PySem.Expr.ListComp elt [{ target:=PySem.Expr.Name t px,iter:=iter,ifs:=ifs,is_async:=0 }] sc pos) (L2.tComp wi js tc te):=⟨@L2.pe_comp _ _ _ _ _ _ _ _ _ _ _ _ _ hc hck hi.h (fun cl C s H fp=>(hf cl C s H fp).h) (fun cl C s H fp=>(he cl C s H fp).h) hs⟩
theorem aq {X:Cx} {CX:CXT} {k:Nat} {f:PySem.Addr} {fd:PySem.FuncData} {ps:List Str} {sp:Sp} {dvs:List V} {ds:List PySem.Value} {E:XK} {x:Str} {p:Pos} {pos:Pos} {e:Expr} {es:List Expr} {t:TA} (F:FnOk (Cx.prog X) (Cx.w X) (Cx.K X) (Cx.mg X) (Cx.base X) CX k f fd ps sp) (hr:Room k (Cx.A X)) (hg:Gl X x) (hm:Cx.mg X x=Option.some (PySem.Value.ref f)) (hk:PySem.W.keepIn (Cx.K X) (PySem.Value.ref f)=Bool.true) (hb:Binds (Cx.K X) fd ps ds) (hd:Vals dvs ds) (hx:gk CX X E) (ha:QA X (e::es) t) (hdb:(x == PySem.Str.ofString "__debug__")=Bool.false:=by decide) (he:PySem.starEach (e::es) (Cx.env X)=(Bool.false,PySem.eval e (Cx.env X))::PySem.starEach es (Cx.env X):=by rfl) (hpl:(List.any (PySem.backTo pos (PySem.starEach es (Cx.env X))) fun (x:Bool × PySem.Sem PySem.Value)=>Prod.fst x)=Bool.false:=by rfl):QE X (PySem.Expr.Call (PySem.Expr.Name x p) (e::es) [] pos) (L2.tCall sp dvs E t):=⟨@L2.pe_call _ _ _ _ _ _ _ _ _ _ _ _ _ _ _ _ F hr hg hm hk hb hd hx ha.h hdb he hpl⟩
theorem ax {X:Cx} {x:Str} {p:Pos} {pos:Pos} {e:Expr} {es:List Expr} {t:TA} {id:String} {r:List V->Hp->VK->Prop} (hc:CallR X (PySem.Value.builtin id) r) (hg:Gl X x) (hm:Cx.mg X x=Option.none) (hv:PySem.bootBuiltins x=Option.some (PySem.Value.builtin id)) (ha:QA X (e::es) t) (hn:x ≠ PySem.Str.ofString "__name__":=by decide) (hdb:(x == PySem.Str.ofString "__debug__")=Bool.false:=by decide) (he:PySem.starEach (e::es) (Cx.env X)=(Bool.false,PySem.eval e (Cx.env X))::PySem.starEach es (Cx.env X):=by rfl) (hpl:(List.any (PySem.backTo pos (PySem.starEach es (Cx.env X))) fun (x:Bool × PySem.Sem PySem.Value)=>Prod.fst x)=Bool.false:=by rfl):QE X (PySem.Expr.Call (PySem.Expr.Name x p) (e::es) [] pos) (L2.tCB r t):=⟨@L2.pe_callB _ _ _ _ _ _ _ _ _ hc hg hm hv ha.h hn hdb he hpl⟩
theorem aY {X:Cx} {x:Str} {p:Pos} {pos:Pos} {e:Expr} {es:List Expr} {t:TA} {T:String} {r:List V->Hp->VK->Prop} (hc:CallR X (PySem.Value.type T) r) (hg:Gl X x) (hm:Cx.mg X x=Option.none) (hv:PySem.bootBuiltins x=Option.some (PySem.Value.type T)) (ha:QA X (e::es) t) (hn:x ≠ PySem.Str.ofString "__name__":=by decide) (hdb:(x == PySem.Str.ofString "__debug__")=Bool.false:=by decide) (he:PySem.starEach (e::es) (Cx.env X)=(Bool.false,PySem.eval e (Cx.env X))::PySem.starEach es (Cx.env X):=by rfl) (hpl:(List.any (PySem.backTo pos (PySem.starEach es (Cx.env X))) fun (x:Bool × PySem.Sem PySem.Value)=>Prod.fst x)=Bool.false:=by rfl):QE X (PySem.Expr.Call (PySem.Expr.Name x p) (e::es) [] pos) (L2.tCB r t):=⟨@L2.pe_callTy _ _ _ _ _ _ _ _ _ hc hg hm hv ha.h hn hdb he hpl⟩
theorem eB {X:Cx} {o:Expr} {e:Expr} {es:List Expr} {to:TE} {t:TA} {name:Str} {apos:Pos} {cpos:Pos} {T:String} {id:String} {r:V->List V->Hp->VK->Prop} (pa:PySem.PlainAttrs T) (slot:PySem.Slot T name id) (hty:PySem.typeOf (PySem.Value.builtin id)=Pure.pure (PySem.Value.type "method_descriptor")) (hm:MtR X id r) (ho:QE X o to) (ha:QA X (e::es) t) (hbase:PySem.attributeBase o name (Cx.env X) (PySem.eval o (Cx.env X))=PySem.eval o (Cx.env X):=by rfl) (hfew:(((List.all (PySem.backTo cpos (PySem.starEach (e::es) (Cx.env X))) fun (x:Bool × PySem.Sem PySem.Value)=>!Prod.fst x) && List.all (PySem.backToKw cpos (PySem.keywordEach [] (Cx.env X))) fun (x:Option Str × PySem.Sem PySem.Value)=>Option.isSome (Prod.fst x)) && Decidable.decide ((List.length (e::es)+List.length ([]:List Keyword)+if List.isEmpty ([]:List Keyword)=Bool.true then 0 else 1) < 30))=Bool.true:=by rfl) (hline:(PySem.Pos.endLine apos == PySem.Pos.line cpos)=Bool.true:=by rfl) (hs:PySem.starEach (e::es) (Cx.env X)=(Bool.false,PySem.eval e (Cx.env X))::PySem.starEach es (Cx.env X):=by rfl) (hplain:(List.any (PySem.backTo cpos (PySem.starEach es (Cx.env X))) fun (x:Bool × PySem.Sem PySem.Value)=>Prod.fst x)=Bool.false:=by rfl):QE X (PySem.Expr.Call (PySem.Expr.Attribute o name apos) (e::es) [] cpos) (L2.tBM (Cx.K X) T r to t):=⟨@L2.pe_bm _ _ _ _ _ _ _ _ _ _ _ _ pa slot hty hm ho.h ha.h hbase hfew hline hs hplain⟩
theorem cL {X:Cx} {o:Expr} {to:TE} {name:Str} {apos:Pos} {cpos:Pos} {T:String} {id:String} {r:V->List V->Hp->VK->Prop} (pa:PySem.PlainAttrs T) (slot:PySem.Slot T name id) (hty:PySem.typeOf (PySem.Value.builtin id)=Pure.pure (PySem.Value.type "method_descriptor")) (hm:MtR X id r) (ho:QE X o to) (hbase:PySem.attributeBase o name (Cx.env X) (PySem.eval o (Cx.env X))=PySem.eval o (Cx.env X):=by rfl) (hline:(PySem.Pos.endLine apos == PySem.Pos.line cpos)=Bool.true:=by rfl):QE X (PySem.Expr.Call (PySem.Expr.Attribute o name apos) [] [] cpos) (L2.tBM0 (Cx.K X) T r to):=⟨@L2.pe_bm0 _ _ _ _ _ _ _ _ _ pa slot hty hm ho.h hbase hline⟩
theorem cv {X:Cx} {a:Expr} {pos:Pos} {tA:TT} (ha:QT X a tA):QT X (PySem.Expr.UnaryOp PySem.UnaryOp.Not a pos) (L2.tNot tA):=⟨@L2.pt_not _ _ _ _ ha.h⟩
theorem ci {X:Cx} {e:Expr} {t:TE} (h:QE X e t) (he:∀ (whole:PySem.Sem PySem.Value),PySem.isTrue e (Cx.env X) whole=(do let v <- whole;PySem.standAt (PySem.Expr.pos e);PySem.holding [v] (PySem.truthy v)):=by intro _;rfl):QT X e (L2.tB t):=⟨@L2.pt_val _ _ _ h.h he⟩
theorem aK {X:Cx} {a:Expr} {b:Expr} {ta:TE} {tb:TE} {pos:Pos} {op:CmpOp} {r:R2} (ho:OpR X (PySem.compareOp op) r) (ha:QE X a ta) (hb:QE X b tb) (hm:PySem.behindInMarks op b=Bool.false):QT X (PySem.Expr.Compare a [op] [b] pos) (L2.tTest (L2.tOp r ta tb)):=⟨@L2.pt_cmpR _ _ _ _ _ _ _ _ ho ha.h hb.h hm⟩
theorem qe {X:Cx} {a:Expr} {b:Expr} {c:Expr} {ta:TE} {tb:TE} {tc:TE} {pos:Pos} {op:CmpOp} {op':CmpOp} {r:R2} {r':R2} (ho:OpR X (PySem.compareOp op) r) (ho':OpR X (PySem.compareOp op') r') (ha:QE X a ta) (hb:QE X b tb) (hc:QE X c tc) (hm:PySem.lastMarks [op,op'] [b,c]=Bool.false:=by with_unfolding_all rfl):QT X (PySem.Expr.Compare a [op,op'] [b,c] pos) (L2.tTest (L2.tChain r r' ta tb tc)):=⟨@L2.pt_chain _ _ _ _ _ _ _ _ _ _ _ _ ho ho' ha.h hb.h hc.h hm⟩
theorem jK {X:Cx} {a:Expr} {b:Expr} {pos:Pos} {tA:TT} {tB':TT} {rest:List Expr} (ha:QT X a tA) (hb:QW X (PySem.Expr.BoolOp PySem.BoolOp.And (b::rest) pos) tB'):QW X (PySem.Expr.BoolOp PySem.BoolOp.And (a::b::rest) pos) (L2.tAnd tA tB'):=⟨@L2.pw_and _ _ _ _ _ _ _ ha.h hb.h⟩
theorem tT {X:Cx} {a:Expr} {b:Expr} {pos:Pos} {tA:TT} {tB':TT} {rest:List Expr} (ha:QT X a tA) (hb:QW X (PySem.Expr.BoolOp PySem.BoolOp.Or (b::rest) pos) tB'):QW X (PySem.Expr.BoolOp PySem.BoolOp.Or (a::b::rest) pos) (L2.tOr tA tB'):=⟨@L2.pw_or _ _ _ _ _ _ _ ha.h hb.h⟩
theorem ja {X:Cx} {a:Expr} {pos:Pos} {tA:TT} (ha:QT X a tA):QW X (PySem.Expr.BoolOp PySem.BoolOp.And [a] pos) tA:=⟨@L2.pw_and1 _ _ _ _ ha.h⟩
theorem nG {X:Cx} {a:Expr} {pos:Pos} {tA:TT} (ha:QT X a tA):QW X (PySem.Expr.BoolOp PySem.BoolOp.Or [a] pos) tA:=⟨@L2.pw_or1 _ _ _ _ ha.h⟩
theorem lQ {X:Cx} {e:Expr} {t:TT} (h:QW X e t):QT X e t:=⟨@PW.pt _ _ _ h.h⟩
theorem bz {X:Cx} {e:Expr} {te:TE} (h:QE X e te):QO X (Option.some e) (L2.tPart te):=⟨@L2.po_some _ _ _ h.h⟩
theorem bB {X:Cx} {tg:Expr} {l:Expr} {tl:TE} (hl:QE X l tl):QI X tg l (L2.iList (Cx.K X) tl):=⟨@L2.pi_list _ _ _ _ hl.h⟩
theorem cw {X:Cx} {tg:Expr} {l:Expr} {tl:TE} (hl:QE X l tl):QI X tg l (L2.iTup (Cx.K X) tl):=⟨@L2.pi_tup _ _ _ _ hl.h⟩
theorem aX {X:Cx} {tg:Expr} {a:Expr} {ta:TA} {p:Pos} {pos:Pos} (hg:Gl X (PySem.Str.ofString "range")) (hm:Cx.mg X (PySem.Str.ofString "range")=Option.none) (ha:QA X [a] ta) (hs:PySem.starEach [a] (Cx.env X)=[(Bool.false,PySem.eval a (Cx.env X))]:=by rfl):QI X tg (PySem.Expr.Call (PySem.Expr.Name (PySem.Str.ofString "range") p) [a] [] pos) (L2.iRng1 ta):=⟨@L2.pi_range1 _ _ _ _ _ _ hg hm ha.h hs⟩
theorem az {X:Cx} {pos:Pos} {i:Nat} {x:Str} (hN:List.Nodup (Cx.N X)) (hi:(Cx.N X)[i]?=Option.some x) (hx:Loc (PySem.Env.scope (Cx.env X)) x) (hf:Cx.fn X x=Bool.true\/List.lookup x (PySem.Scope.names (PySem.Env.scope (Cx.env X)))=Option.some PySem.NameKind.local:=by first | exact .inl rfl | exact .inr rfl | assumption):QG X (PySem.Expr.Name x pos) (L2.gName i):=⟨@L2.pg_name _ _ _ _ hN hi hx hf⟩
theorem wx {X:Cx} {pos:Pos} {o:Expr} {i:Expr} {to:TE} {ti:TE} {t:xt} (ho:QE X o to) (hi:QE X i ti) (hs:yh X t) (ha:∀ (v:PySem.Value),PySem.assign (PySem.Expr.Subscript o i pos) (Cx.env X) v=(do let ov <- PySem.holding [v] (PySem.eval o (Cx.env X));let iv <- PySem.holding [v,ov] (PySem.eval i (Cx.env X));PySem.standAt pos;PySem.holding [v,ov,iv] (PySem.setItem ov iv v);PySem.release [v,ov,iv] []):=by intro _;rfl):QG X (PySem.Expr.Subscript o i pos) (L2.gSub to ti t):=⟨@L2.pg_sub _ _ _ _ _ _ _ ho.h hi.h hs ha⟩
theorem dF {X:Cx} {pos:Pos} {es:List Expr} {k:Nat} {t:TGs} {n:Nat} (hc:Cx.calm X=Bool.true) (h:QGs X es t) (hn:List.length (PySem.assignEach es (Cx.env X))=n:=by rfl) (hst:List.findIdx? (fun (x:Bool × (PySem.Value->PySem.Sem Unit))=>Prod.fst x) (PySem.assignEach es (Cx.env X))=Option.none:=by rfl):QG X (PySem.Expr.Tuple es k pos) (L2.gTup (Cx.K X) n t):=⟨@L2.pg_tup _ _ _ _ _ _ hc h.h hn hst⟩
theorem aQ {X:Cx} {e:Expr} {es:List Expr} {t:TG} {u:TGs} (h1:QG X e t) (h2:QGs X es u) (hs:List.map (fun (x:Bool × (PySem.Value->PySem.Sem Unit))=>Prod.snd x) (PySem.assignEach (e::es) (Cx.env X))=PySem.assign e (Cx.env X)::List.map (fun (x:Bool × (PySem.Value->PySem.Sem Unit))=>Prod.snd x) (PySem.assignEach es (Cx.env X)):=by rfl):QGs X (e::es) (L2.gCons t u):=⟨@L2.pgs_cons _ _ _ _ _ h1.h h2.h hs⟩
theorem db {X:Cx} {c:Expr} {t:TT} (h:QT X c t):QIf X [c] t:=⟨@L2.pif_one _ _ _ h.h⟩
theorem qaT {X:Cx} {es:List Expr} {te:TE} {t:TA} {a:List Expr} {k:Nat} {p:Pos} (ha:QE X (PySem.Expr.Tuple a k p) te) (hr:QA X es t):QA X (PySem.Expr.Tuple a k p::es) (L2.tCons te t):=⟨@L2.paT _ _ _ _ _ _ _ ha.h hr.h⟩
theorem qaL {X:Cx} {es:List Expr} {te:TE} {t:TA} {a:List Expr} {p:Pos} (ha:QE X (PySem.Expr.List a p) te) (hr:QA X es t):QA X (PySem.Expr.List a p::es) (L2.tCons te t):=⟨@L2.paL _ _ _ _ _ _ ha.h hr.h⟩
theorem qaC {X:Cx} {es:List Expr} {te:TE} {t:TA} {c:PySem.Const} {k:Nat} {p:Pos} (ha:QE X (PySem.Expr.Constant c k p) te) (hr:QA X es t):QA X (PySem.Expr.Constant c k p::es) (L2.tCons te t):=⟨@L2.paC _ _ _ _ _ _ _ ha.h hr.h⟩
theorem qaN {X:Cx} {es:List Expr} {te:TE} {t:TA} {x:Str} {p:Pos} (ha:QE X (PySem.Expr.Name x p) te) (hr:QA X es t):QA X (PySem.Expr.Name x p::es) (L2.tCons te t):=⟨@L2.paN _ _ _ _ _ _ ha.h hr.h⟩
theorem qaB {X:Cx} {es:List Expr} {te:TE} {t:TA} {l:Expr} {r:Expr} {o:Operator} {p:Pos} (ha:QE X (PySem.Expr.BinOp l o r p) te) (hr:QA X es t):QA X (PySem.Expr.BinOp l o r p::es) (L2.tCons te t):=⟨@L2.paB _ _ _ _ _ _ _ _ ha.h hr.h⟩
theorem qaS {X:Cx} {es:List Expr} {te:TE} {t:TA} {v:Expr} {i:Expr} {p:Pos} (ha:QE X (PySem.Expr.Subscript v i p) te) (hr:QA X es t):QA X (PySem.Expr.Subscript v i p::es) (L2.tCons te t):=⟨@L2.paS _ _ _ _ _ _ _ ha.h hr.h⟩
theorem qaK {X:Cx} {es:List Expr} {te:TE} {t:TA} {f:Expr} {a:List Expr} {k:List Keyword} {p:Pos} (ha:QE X (PySem.Expr.Call f a k p) te) (hr:QA X es t):QA X (PySem.Expr.Call f a k p::es) (L2.tCons te t):=⟨@L2.paK _ _ _ _ _ _ _ _ ha.h hr.h⟩
theorem qaM {X:Cx} {es:List Expr} {te:TE} {t:TA} {l:Expr} {o:List CmpOp} {c:List Expr} {p:Pos} (ha:QE X (PySem.Expr.Compare l o c p) te) (hr:QA X es t):QA X (PySem.Expr.Compare l o c p::es) (L2.tCons te t):=⟨@L2.paM _ _ _ _ _ _ _ _ ha.h hr.h⟩
theorem qaI {X:Cx} {es:List Expr} {te:TE} {t:TA} {c:Expr} {a:Expr} {b:Expr} {p:Pos} (ha:QE X (PySem.Expr.IfExp c a b p) te) (hr:QA X es t):QA X (PySem.Expr.IfExp c a b p::es) (L2.tCons te t):=⟨@L2.paI _ _ _ _ _ _ _ _ ha.h hr.h⟩
theorem qaU {X:Cx} {es:List Expr} {te:TE} {t:TA} {o:PySem.UnaryOp} {v:Expr} {p:Pos} (ha:QE X (PySem.Expr.UnaryOp o v p) te) (hr:QA X es t):QA X (PySem.Expr.UnaryOp o v p::es) (L2.tCons te t):=⟨@L2.paU _ _ _ _ _ _ _ ha.h hr.h⟩
theorem qaE {X:Cx} {es:List Expr} {te:TE} {t:TA} {e:Expr} {g:List PySem.Comprehension} {s:PySem.Scope} {p:Pos} (ha:QE X (PySem.Expr.ListComp e g s p) te) (hr:QA X es t):QA X (PySem.Expr.ListComp e g s p::es) (L2.tCons te t):=⟨@L2.paE _ _ _ _ _ _ _ _ ha.h hr.h⟩
theorem qaJ {X:Cx} {es:List Expr} {te:TE} {t:TA} {v:List Expr} {p:Pos} (ha:QE X (PySem.Expr.JoinedStr v p) te) (hr:QA X es t):QA X (PySem.Expr.JoinedStr v p::es) (L2.tCons te t):=⟨@L2.paJ _ _ _ _ _ _ ha.h hr.h⟩
theorem qv {X:Cx} (i:Nat) {x:Str} {pos:Pos} (hN:(Cx.N X)[i]?=Option.some x:=by rfl) (hv:Vis (PySem.Env.scope (Cx.env X)) x:=by first | exact Or.inl rfl | exact Or.inr (Or.inl rfl) | exact Or.inr (Or.inr rfl)) (hd:(x == PySem.Str.ofString "__debug__")=Bool.false:=by decide) (hcd:(x == PySem.Str.ofString "__classdict__")=Bool.false:=by decide):QE X (PySem.Expr.Name x pos) (L2.tVar i):=⟨@L2.pv _ i _ _ hN hv hd hcd⟩
theorem af {X:Cx} {i:Int} {j:Nat} {pos:Pos}:QE X (PySem.Expr.Constant (PySem.Const.int i) j pos) (L2.tC (V.int i)):=⟨@L2.pe_int _ _ _ _⟩
theorem aw {X:Cx} {x:Str} {j:Nat} {pos:Pos}:QE X (PySem.Expr.Constant (PySem.Const.str x) j pos) (L2.tC (V.str x)):=⟨@L2.pe_str _ _ _ _⟩
theorem cT {X:Cx} {b:Bool} {j:Nat} {pos:Pos}:QE X (PySem.Expr.Constant (PySem.Const.bool b) j pos) (L2.tC (V.bl b)):=⟨@L2.pe_bl _ _ _ _⟩
theorem wB {X:Cx} {j:Nat} {pos:Pos}:QE X (PySem.Expr.Constant PySem.Const.none j pos) (L2.tC V.non):=⟨@L2.pe_non _ _ _⟩
theorem cJ {X:Cx} {x:Str} {v:V} {u:PySem.Value} {pos:Pos} (hg:Gl X x) (hm:Cx.mg X x=Option.some u) (r:RelV v u) (hd:(x == PySem.Str.ofString "__debug__")=Bool.false:=by decide):QE X (PySem.Expr.Name x pos) (L2.tC v):=⟨@L2.pe_glob _ _ _ _ _ hg hm r hd⟩
theorem bZ {X:Cx} {x:Str} {v:V} {u:PySem.Value} {pos:Pos} (hg:Gl X x) (hm:Cx.mg X x=Option.none) (hv:PySem.bootBuiltins x=Option.some u) (r:RelV v u) (hn:x ≠ PySem.Str.ofString "__name__":=by decide) (hd:(x == PySem.Str.ofString "__debug__")=Bool.false:=by decide):QE X (PySem.Expr.Name x pos) (L2.tC v):=⟨@L2.pe_bltn _ _ _ _ _ hg hm hv r hn hd⟩
theorem aL {X:Cx}:QSs X [] L2.tNext:=⟨@L2.pss_nil _⟩
theorem ae {X:Cx}:QA X [] L2.tNil:=⟨@L2.pa_nil _⟩
theorem bA {X:Cx}:QO X Option.none L2.tNoPart:=⟨@L2.po_none _⟩
theorem bE {X:Cx}:QIf X [] L2.tYes:=⟨@L2.pif_nil _⟩
theorem bY {X:Cx}:QGs X [] L2.gNil:=⟨@L2.pgs_nil _⟩
section
variable {P:Program} {w:World} {K:W.Frag} {mg:Str->Option Value} {base:Heap}
theorem Fun.okQ {x qual:Str} {st:Stmt} {f:Addr} {fd:FuncData} {N ps:List Str} {k:Nat} {sp:Sp} (F:Fun K x qual st f fd) (S:aF N ps (ah st)) (len:∀ vs H Q E,sp vs H Q E->vs.length=ps.length)
    (hbody:∀ (cdv:Value) (A:Around) (outer:List Env) (s:Shared) (H:Hp) (vs:List V) (Q:VK) (E:XK),Room k (A.deeper (envOfC qual (ah st) s.heap.objs.size f cdv))->sp vs H Q E ->
      ∃ t,QSs (cm CX0 P w K mg base N qual (ah st) f cdv A outer s H E).nox (aA st) t/\t { nx:=fun _ H'=>Q .non H',rt:=Q } (start N vs) H):FnOk P w K mg base CX0 (k+1) f fd ps sp:=
  F.ok S len fun cdv A outer s H vs Q E hr h=>let ⟨t,h1,h2⟩:=hbody cdv A outer s H vs Q E hr h;⟨t,h1.h,h2⟩
end
end L2
namespace L2
open PySem PySem.Spec PyProof.Rows
abbrev vbm:List Value:=[.type "ValueError",.type "Exception",.type "BaseException",.type "object"]
abbrev mF (K:W.Frag) (C:Addr):Prop:=PySem.W.excIn K C vbm "ValueError.__new__" = true
theorem fo {K:W.Frag} {h:Heap} {C:Addr} {bmB:List Value} {newId:String} (X:K.In h) (q:PySem.W.excIn K C bmB newId=true) :
    ∃ bm N nm qn bs hdct sn sub ab col dd k0 k1 k2 k3 k5 mN,h.get? C=some (excClassObj nm qn C N bs bm hdct sn sub ab col dd k0 k1 k2 k3 k5 newId)/\h.Ns N mN/\mN "__init__" = none/\OwnTail h bmB bm /\
      ∀ v b,PySem.W.mroIn K C v=some b->(Value.ref C::bm).contains v=b:=by
  unfold PySem.W.excIn at q
  split at q
  · rename_i dd cd sl ho
    split at q
    · rename_i C' bm k0 k1 k2 k3 n k5 hm hs
      simp only[Bool.and_eq_true,beq_iff_eq,Bool.not_eq_true'] at q
      obtain⟨⟨⟨⟨⟨rfl,rfl⟩,hdel⟩,ht⟩,hok⟩,hni⟩:=q
      obtain⟨nm,bs,mro,ns,qn,hd,sn,sub,ab,col,del⟩:=cd
      dsimp only at hm hdel hok hni
      subst hm hdel
      have hsl:sl = #[k0,k1,k2,k3,some (.builtin n),k5]:=by
        obtain⟨l⟩:=sl
        simp only at hs
        rw[hs]
      subst hsl
      refine⟨bm,ns,nm,qn,bs,hd,sn,sub,ab,col,dd,k0,k1,k2,k3,k5,_,X _ _ ho,.of_isNs (PySem.W.isNs_of_in X hok),PySem.W.nsMap_none_of_in X hok hni,PySem.W.tail_of_in X ht,fun v b e=>?_⟩
      unfold PySem.W.mroIn PySem.W.clsIn at e
      rw[ho] at e
      simpa using e
    · cases q
  · cases q
theorem fJ {M:Model} {A:Around} {E:Value->Shared->Prop} {K:W.Frag} {h:Heap} {g:Array GenState} {d:Drawn} {t:Nat} {os:OsState} {e C D:Addr} {oe:Obj} {b:Bool} {Q:Bool->Shared->Prop} (X:K.In h)
    (hC:mF K C) (hD:mF K D) (he:h.get? e=some oe) (hcls:oe.cls=.ref C) (hm:PySem.W.mroIn K C (.ref D)=some b) (hq:Q b ⟨h,g,d,t,os⟩):wpAny M A (excMatches (.ref e) (.ref D)) Q E ⟨h,g,d,t,os⟩:=by
  obtain⟨bm,N,nm,qn,bs,hdct,sn,sub,ab,col,dd,k0,k1,k2,k3,k5,mN,oC,_,_,_,mroC⟩:=fo X hC
  obtain⟨bm',N',nm',qn',bs',hdct',sn',sub',ab',col',dd',l0,l1,l2,l3,l5,mN',oD,_,_,TD,_⟩:=fo X hD
  have hcB:(Value.ref D::bm').contains (.type "BaseException")=true:=by
    rw[List.contains_cons,TD.hasType (X:="BaseException") (b:=true) (by decide),Bool.or_true]
  have hcC:(Value.ref C::bm).contains (.ref D)=b:=mroC _ _ hm
  have f:=tc_notTuple
  unfold excMatches
  repeat (first | (with_reducible refine wpAny_loadPart_at he ?_;rw[hcls]) | with_reducible refine wpAny_loadPart_at oD ?_ | (with_reducible refine wpAny_isSubtype_exc oD ?_;rw[hcB]) | (with_reducible refine wpAny_isSubtype_exc oC ?_;rw[hcC]) | wp_step)
  all_goals (cases b <;> first | exact hq | (wp_walk;exact hq))
theorem ObjOk.there {P:Program} {w:World} {H:Hp} {h:Heap} {a:Addr} {o:HO} (x:ObjOk P w H h a o):∃ ob,h.get? a=some ob:=by
  cases o with
  | lst xs=>obtain⟨_,_,_,_,e⟩:=x;exact⟨_,e⟩
  | tup xs=>obtain⟨_,_,_,p⟩:=x;obtain⟨ob,e,_⟩:=p;exact⟨ob,e⟩
  | dK kvs=>obtain⟨_,_,_,_,o,_,_,e,_⟩:=x;exact⟨_,e⟩
  | dT kvs=>obtain⟨_,_,_,_,o,_,_,e,_⟩:=x;exact⟨_,e⟩
  | set S n=>obtain⟨o,_,_,_,e,_⟩:=x;exact⟨_,e⟩
  | ins C dx fs=>obtain⟨_,_,_,e,_⟩:=x;exact⟨_,e⟩
  | own y=>exact x
  | xd fs=>obtain⟨_,⟨_,_,_,e,_⟩,_⟩:=x;exact⟨_,e⟩
  | rng lo hi=>obtain⟨_,_,_,e⟩:=x;exact⟨_,e⟩
  | frz ob u=>obtain⟨e,_⟩:=x;exact⟨_,e⟩
  | tbl ps=>exact⟨_,show h.get? a=some _ from x⟩
  | met f y=>exact⟨_,show h.get? a=some _ from x⟩
  | ext φ=>obtain⟨_,e,_⟩:=x;exact e
structure XO (P:Program) (w:World) (outer:List Env) (H:Hp) (s:Shared) (cls:Value) (a:Addr) (H':Hp) (s':Shared):Prop where
  os:s'.os=s.os
  bare:AllBare s'.gens
  un:Un (frs outer) [] H H' s.heap s'.heap
  hok:HOk P w H' s'.heap
  new:s.heap.get? a=none
  free:H' a=none
  fly:∃ B a0,Heap.FlyingW B outer a cls a0 s'.heap/\∀ b o,(H' b ≠ none\/∃ o',s.heap.get? b=some o')->b ∉ frs outer->s'.heap.get? b=some o->B.get? b=some o
def CXe (P:Program) (w:World):CXT:=fun outer H s E e s'=>∃ a cls H',e=.ref a/\XO P w outer H s cls a H' s'/\E cls none H'
section
variable {X:Cx} {pins:List (Addr × Obj)} {σ:St} {H H':Hp} {s s':Shared} {M:Model} {E':Value->Shared->Prop} {a:Addr} {cls:Value}
theorem Un.fly {fs:List Addr} {H0:Hp} {h0 h h' B:Heap} {fr:List Addr} (u:Un fs [] H0 H h0 h) (hfs:∀ b ∈ fr,b ∈ fs\/∀ o,h0.get? b ≠ some o) (stay:B.StaysIn h') (big:∀ b o,h.get? b=some o->b ∉ fr->(H b ≠ none\/∃ o',h0.get? b=some o')->B.get? b=some o)
    (slots:∀ b o,h.get? b=some o->b ∈ fr->∃ sl,h'.get? b=some { o with slots:=sl }) (sub:∀ b ∈ fs,b ∈ fr):Un fs [] H0 H h0 h' where
  keep:=fun b o q n hb hx=>by
    have e:=u.keep b o q n hb hx
    have hf:b ∉ fr:=fun z=>by
      rcases hfs b z with y | y
      · exact hb y
      · exact y o q
    exact stay b o (big b o e hf (.inr ⟨o,q⟩))
  slot:=fun b o q n hb hx=>by
    obtain⟨sl,e⟩:=u.slot b o q n hb hx
    obtain⟨sl',e'⟩:=slots b _ e (sub b hb)
    exact⟨sl',e'⟩
  free:=u.free
  there:=fun b o q hx=>by
    obtain⟨o',e⟩:=u.there b o q hx
    by_cases hf:b ∈ fr
    · obtain⟨sl,e'⟩:=slots b o' e hf
      exact⟨_,e'⟩
    · exact⟨o',stay b o' (big b o' e hf (.inr ⟨o,q⟩))⟩
  tups:=u.tups
  frzs:=u.frzs
  tbls:=u.tbls
theorem HOk.fly {P:Program} {w:World} {H:Hp} {h h' B:Heap} {fr:List Addr} (ok:HOk P w H h) (hfr:∀ b ∈ fr,H b=none) (stay:B.StaysIn h') (big:∀ b o,h.get? b=some o->b ∉ fr->H b ≠ none->B.get? b=some o):HOk P w H h':=fun a o e=>by
  refine (ok a o e).stay (fun b u hb q=>?_) (fun _ q=>q) fun _ _ q=>q
  have hn:H b ≠ none:=by
    rcases hb with rfl | hb
    · rw[e];exact fun z=>nomatch z
    · rw[hb];exact fun z=>nomatch z
  exact stay b u (big b u q (fun z=>hn (hfr b z)) hn)
theorem cG {env:Env} {l:List Env} {L:Addr} (h:env.frame=some L):frs (env::l)=L::frs l:=by
  unfold frs
  rw[List.filterMap_cons,h]
theorem Inv.raise (I:Inv X pins σ H s) (hs:X.stack=X.env::X.outer) (hf:X.env.frame=some X.env.locals) (hex:X.ex=[]) {h1:Heap} {args:List Value} (hx:Heap.MadeExcOf s.heap h1 a cls args) :
    wpAny M X.A (leaving X.env (.ref a)) (fun _ s''=>XO X.prog X.w X.outer X.H₀ X.s₀ cls a H s'') E' { s with heap:=h1 }:=by
  have hfr:X.A.frames=some (X.env::X.outer):=by rw[<- hs];exact I.ok.frames
  have hFF:s.heap.FunFrames X.base (X.env::X.outer):=by rw[<- hs];exact I.stack
  have hin:∀ env ∈ (X.env::X.outer),∀ b,env.frame=some b->b ∈ frs (X.env::X.outer):=fun env he b hb=>List.mem_filterMap.mpr ⟨env,he,hb⟩
  have hfree:∀ b ∈ frs (X.env::X.outer),H b=none:=by rw[<- hs];exact I.stkFree
  have ub:Un X.fs [] X.H₀ H X.s₀.heap s.heap:=by have:=I.base;rw[hex] at this;exact this
  have nL:∀ o,X.s₀.heap.get? X.env.locals ≠ some o:=fun o z=>absurd (Nat.lt_of_lt_of_le (Heap.lt_size z) I.ok.above) (Nat.lt_irrefl _)
  have big:∀ b o,s.heap.get? b=some o->b ∉ frs (X.env::X.outer)->(PySem.W.hideAll s.heap (frs (X.env::X.outer))).get? b=some o:=fun b o e n=>PySem.W.hideAll_get _ e n
  refine wpAny_leaves_madeW (base:=PySem.W.hideAll s.heap (frs (X.env::X.outer))) hfr hf (fun b o q=>PySem.W.of_hideAll _ q) (PySem.W.funFrames_hide hFF hin) hx fun h' t fl _ _ up=>?_
  have slots:∀ b o,s.heap.get? b=some o->b ∈ frs (X.env::X.outer)->∃ sl,h'.get? b=some { o with slots:=sl }:=fun b o e hb=>by
    obtain⟨_,o',e',nf⟩:=hFF.mem hb
    rw[e] at e'
    cases e'
    exact up b o (hx.keeps b o e) nf
  have hfs:∀ b ∈ frs (X.env::X.outer),b ∈ X.fs\/∀ o,X.s₀.heap.get? b ≠ some o:=fun b hb=>by
    rw[cG hf] at hb
    rcases List.mem_cons.mp hb with rfl | hb
    · exact .inr nL
    · exact .inl hb
  have sub:∀ b ∈ X.fs,b ∈ frs (X.env::X.outer):=fun b hb=>by
    rw[cG hf]
    exact List.mem_cons_of_mem _ hb
  refine⟨I.os,I.bare,ub.fly hfs fl.1 (fun b o e n _=>big b o e n) slots sub,I.hok.fly hfree fl.1 (fun b o e n _=>big b o e n),?_,?_,_,_,fl,fun b o hb hn e=>?_⟩
  · cases q:X.s₀.heap.get? a with
    | none=>rfl
    | some o=>
      obtain⟨o',e⟩:=ub.there a o q (by simp)
      have:=hx.new
      rw[e] at this
      cases this
  · cases q:H a with
    | none=>rfl
    | some o=>
      obtain⟨ob,e⟩:=(I.hok a o q).there
      have:=hx.new
      rw[e] at this
      cases this
  · have hbs:∃ ob,s.heap.get? b=some ob:=by
      rcases hb with hb | ⟨o',hb⟩
      · cases q:H b with
        | none=>exact absurd q hb
        | some u=>exact (I.hok b u q).there
      · exact ub.there b o' hb (by simp)
    have hnL:b ∉ frs (X.env::X.outer):=fun z=>by
      rw[cG hf] at z
      rcases List.mem_cons.mp z with rfl | z
      · rcases hb with hb | ⟨o',hb⟩
        · exact hb I.free
        · exact nL o' hb
      · exact hn z
    obtain⟨ob,e1⟩:=hbs
    have e2:=big b ob e1 hnL
    have e3:=fl.1 b ob e2
    rw[e] at e3
    cases e3
    exact e2
theorem Inv.pass (I:Inv X pins σ H s) (hs:X.stack=X.env::X.outer) (hf:X.env.frame=some X.env.locals) (hex:X.ex=[]) (x:XO X.prog X.w X.stack H s cls a H' s') :
    wpAny M X.A (leaving X.env (.ref a)) (fun _ s''=>XO X.prog X.w X.outer X.H₀ X.s₀ cls a H' s'') E' s':=by
  rw[hs] at x
  have hfr:X.A.frames=some (X.env::X.outer):=by rw[<- hs];exact I.ok.frames
  obtain⟨B,a0,fly,big⟩:=x.fly
  have ub:Un X.fs [] X.H₀ H X.s₀.heap s.heap:=by have:=I.base;rw[hex] at this;exact this
  have nL:∀ o,X.s₀.heap.get? X.env.locals ≠ some o:=fun o z=>absurd (Nat.lt_of_lt_of_le (Heap.lt_size z) I.ok.above) (Nat.lt_irrefl _)
  have hfree:∀ b ∈ frs (X.env::X.outer),H b=none:=by rw[<- hs];exact I.stkFree
  have hFF:s.heap.FunFrames X.base (X.env::X.outer):=by rw[<- hs];exact I.stack
  have hsub:∀ b ∈ X.fs,b ∈ frs (X.env::X.outer):=fun b hb=>by
    rw[cG hf]
    exact List.mem_cons_of_mem _ hb
  have ut:Un X.fs [] X.H₀ H' X.s₀.heap s'.heap:=by
    have nofr:∀ b o,X.s₀.heap.get? b=some o->b ∉ X.fs->b ∉ frs (X.env::X.outer):=fun b o q hb z=>by
      rw[cG hf] at z
      rcases List.mem_cons.mp z with rfl | z
      · exact nL o q
      · exact hb z
    refine⟨fun b o q n hb hx=>x.un.keep b o (ub.keep b o q n hb hx) (ub.free b o q n hx) (nofr b o q hb) (by simp),fun b o q n hb hx=>?_,fun b o q n hx=>?_,fun b o q hx=>?_,fun b xs q=>x.un.tups b xs (ub.tups b xs q),fun b o u q=>x.un.frzs b o u (ub.frzs b o u q),fun b ps q=>?_⟩
    · obtain⟨sl,e⟩:=ub.slot b o q n hb hx
      obtain⟨sl',e'⟩:=x.un.slot b _ e (ub.free b o q n hx) (hsub b hb) (by simp)
      exact⟨sl',e'⟩
    · obtain⟨o',e⟩:=ub.there b o q hx
      exact x.un.free b o' e (ub.free b o q n hx) (by simp)
    · obtain⟨o',e⟩:=ub.there b o q hx
      exact x.un.there b o' e (by simp)
    · obtain⟨m1,e1⟩:=ub.tbls b ps q
      obtain⟨m2,e2⟩:=x.un.tbls b _ e1
      exact⟨m1++m2,by rw[e2,Array.append_assoc]⟩
  have hfree':∀ b ∈ frs (X.env::X.outer),H' b=none:=fun b hb=>by
    obtain⟨_,o,e,_⟩:=hFF.mem hb
    exact x.un.free b o e (hfree b hb) (by simp)
  refine wpAny_leaves_onW hfr hf fly fun h' fl up=>?_
  have bigT:∀ b o,s'.heap.get? b=some o->b ∉ frs (X.env::X.outer)->(H' b ≠ none\/∃ o',X.s₀.heap.get? b=some o')->B.get? b=some o:=fun b o e n hb=>by
    refine big b o ?_ n e
    rcases hb with hb | ⟨o',hb⟩
    · exact .inl hb
    · exact .inr (ub.there b o' hb (by simp))
  have slots:∀ b o,s'.heap.get? b=some o->b ∈ frs (X.env::X.outer)->∃ sl,h'.get? b=some { o with slots:=sl }:=fun b o e hb=>by
    obtain⟨_,o',e',nf⟩:=fly.2.2.1.mem hb
    rw[e] at e'
    cases e'
    exact up b o e nf
  have hfs:∀ b ∈ frs (X.env::X.outer),b ∈ X.fs\/∀ o,X.s₀.heap.get? b ≠ some o:=fun b hb=>by
    rw[cG hf] at hb
    rcases List.mem_cons.mp hb with rfl | hb
    · exact .inr nL
    · exact .inl hb
  refine⟨x.os.trans I.os,x.bare,ut.fly hfs fl.1 bigT slots hsub,x.hok.fly hfree' fl.1 (fun b o e n hb=>bigT b o e n (.inl hb)),?_,x.free,B,a0,fl,fun b o hb hn e=>?_⟩
  · cases q:X.s₀.heap.get? a with
    | none=>rfl
    | some o=>
      obtain⟨o',e⟩:=ub.there a o q (by simp)
      have:=x.new
      rw[e] at this
      cases this
  · have hnL:b ∉ frs (X.env::X.outer):=fun z=>by
      rw[cG hf] at z
      rcases List.mem_cons.mp z with rfl | z
      · rcases hb with hb | ⟨o',hb⟩
        · exact hb (hfree' _ (by rw[cG hf];exact List.mem_cons_self))
        · exact nL o' hb
      · exact hn z
    have hbs:∃ ob,s'.heap.get? b=some ob:=by
      rcases hb with hb | ⟨o',hb⟩
      · cases q:H' b with
        | none=>exact absurd q hb
        | some u=>exact (x.hok b u q).there
      · exact ut.there b o' hb (by simp)
    obtain⟨ob,e1⟩:=hbs
    have e2:=bigT b ob e1 hnL hb
    have e3:=fl.1 b ob e2
    rw[e] at e3
    cases e3
    exact e2
end
end L2
namespace L2
open PySem PySem.Spec PyProof.Rows
noncomputable def Cx.hand (X:Cx) (a:Addr):Cx:={ X with A:=X.A.mark (some (.ref a)),calm:=false,xe:=fun _ _=>False }
theorem Cx.Ok.hand {X:Cx} (ok:X.Ok) (a:Addr):(X.hand a).Ok:=
  ⟨ok.mod,ok.kind,ok.glob,ok.blt,ok.above,ok.inj,ok.has,ok.cab,(fun z=>nomatch z),ok.frames,ok.stk,ok.exf,ok.bs,ok.bsz,ok.noex,ok.exfs,ok.funs,ok.frf⟩
section
variable {X:Cx} {pins:List (Addr × Obj)} {σ:St} {H H':Hp} {s s':Shared} {a:Addr}
theorem Inv.hand (I:Inv X pins σ H s) (a:Addr):Inv (X.hand a) pins σ H s:=⟨I.ok.hand a,I.os,I.bare,I.base,I.loc,I.cell,I.free,I.freeC,I.pin,I.hok,I.len⟩
theorem Inv.unhand (ok:X.Ok) (I:Inv (X.hand a) pins σ H s):Inv X pins σ H s:=⟨ok,I.os,I.bare,I.base,I.loc,I.cell,I.free,I.freeC,I.pin,I.hok,I.len⟩
theorem Inv.track {o:HO} (I:Inv X pins σ H s) (hn:H a=none) (hnew:∀ u,X.s₀.heap.get? a ≠ some u) (hok:ObjOk X.prog X.w (upd H a o) s.heap a o) (neL:a ≠ X.env.locals) (neC:∀ x c,X.env.cells.lookup x=some c->c ≠ a) (neP:∀ p ∈ X.pn++pins,p.1 ≠ a):Inv X pins σ (upd H a o) s:=by
  have ne:∀ {b:Addr} {u:HO},H b=some u->b ≠ a:=fun e=>aG e hn
  refine⟨I.ok,I.os,I.bare,⟨I.base.keep,I.base.slot,fun b u q n hx=>?_,I.base.there,fun b xs q=>?_,fun b u v q=>?_,fun b ps q=>?_⟩,I.loc,I.cell,?_,fun x c e=>?_,fun p hp=>?_,fun b u q=>?_,I.len⟩
  · rw[av (fun z:b=a=>hnew u (by rw[<- z];exact q))]
    exact I.base.free b u q n hx
  · have:=I.base.tups b xs q
    rw[av (ne this)]
    exact this
  · have:=I.base.frzs b u v q
    rw[av (ne this)]
    exact this
  · obtain⟨m,e⟩:=I.base.tbls b ps q
    exact⟨m,by rw[av (ne e)];exact e⟩
  · rw[av (Ne.symm neL)]
    exact I.free
  · rw[av (neC x c e)]
    exact I.freeC x c e
  · obtain⟨e,n,y⟩:=I.pin p hp
    exact⟨e,by rw[av (neP p hp)];exact n,y⟩
  · by_cases hb:b=a
    · subst hb
      rw[aa] at q
      cases q
      exact hok
    · rw[av hb] at q
      exact (I.hok b u q).stay (fun _ _ _ z=>z) (fun c z=>by rw[av (ne z)];exact z) fun c xs z=>by rw[av (ne z)];exact z
theorem Inv.gone {i:Nat} {x:Str} {h':Heap} {v:Option Value} {m:Str->Option Value} {tk:Nat} (I:Inv X pins σ H s) (hN:X.N.Nodup) (hi:X.N[i]?=some x) (hn:s.heap.Ns X.env.locals m)
    (hl:∀ (i:Nat) (x:Str) (v:V),X.N[i]?=some x->σ[i]?=some (some v)->Vis X.env.scope x->∃ u,RelV v u/\yE X.env s.heap m x u)
    (hn':h'.Ns X.env.locals (fun y=>if y=x then v else m y)) (hs:Heap.SameBut X.env.locals s.heap h'):Inv X pins (σ.set i none) H { s with heap:=h',toks:=tk }:=by
  have cne:=I.cne
  obtain⟨oL,_,_,hoL,_⟩:=id hn
  refine⟨I.ok,I.os,I.bare,⟨fun b o e n hb hx=>?_,fun b o e n hb hx=>?_,I.base.free,fun b o e hx=>?_,I.base.tups,I.base.frzs,I.base.tbls⟩,⟨_,hn',fun j y v' e1 e2 e3=>?_⟩,fun y c e=>?_,I.free,I.freeC,fun p hp=>?_,fun b ob e=>?_,by simpa using I.len⟩
  · exact (hs.2 b (Nat.ne_of_lt (Nat.lt_of_lt_of_le (Heap.lt_size e) I.ok.above))).trans (I.base.keep b o e n hb hx)
  · obtain⟨sl,e1⟩:=I.base.slot b o e n hb hx
    exact⟨sl,(hs.2 b (Nat.ne_of_lt (Nat.lt_of_lt_of_le (Heap.lt_size e) I.ok.above))).trans e1⟩
  · obtain⟨o',e1⟩:=I.base.there b o e hx
    exact⟨o',(hs.2 b (Nat.ne_of_lt (Nat.lt_of_lt_of_le (Heap.lt_size e) I.ok.above))).trans e1⟩
  · by_cases hj:j=i
    · subst hj
      by_cases hlt:j < σ.length
      · rw[List.getElem?_set_self hlt] at e2;cases e2
      · rw[List.getElem?_eq_none (by simp;omega)] at e2;cases e2
    · rw[List.getElem?_set_ne (Ne.symm hj)] at e2
      obtain⟨u',r',q⟩:=hl j y v' e1 e2 e3
      refine⟨u',r',?_⟩
      rcases q with ⟨k,e⟩ | ⟨k,c,e,z⟩
      · refine .inl ⟨k,?_⟩
        have:y ≠ x:=fun e=>hj (gG hN e1 (e ▸ hi))
        simp[this,e]
      · exact .inr ⟨k,c,e,z.sameBut hs (cne y c e)⟩
  · obtain⟨w',z⟩:=I.cell y c e
    exact⟨w',z.sameBut hs (cne y c e)⟩
  · obtain⟨e,n,ne,nf,d⟩:=I.pin p hp
    exact⟨(hs.2 p.1 ne).trans e,n,ne,nf,d⟩
  · refine (I.hok b ob e).stay (fun c w' hc q=>(hs.2 c ?_).trans q) (fun _ q=>q) fun _ _ q=>q
    rintro rfl
    rcases hc with rfl | hc
    · rw[I.free] at e;cases e
    · rw[I.free] at hc;cases hc
def rM (EX:Hp->Prop) (t:TA):TS:=fun _ σ H=>t σ H fun vs H1=>vs.length <= 10/\EX H1
theorem qm {x:Str} {C:Addr} {e:Expr} {es:List Expr} {t:TA} {np cpos pos:Pos} {EX:Hp->Prop} (hc:X.calm=true) (hg:Gl X x) (hm:X.mg x=some (.ref C)) (he:mF X.K C) (ha:PA X (e::es) t)
    (hx:∀ pins σ H s h' a vs,Inv X pins σ H s->Heap.MadeExcOf s.heap h' a (.ref C) vs->EX H->X.xe (.ref a) { s with heap:=h' })
    (hd:(x == ("__debug__" : Str))=false:=by decide) (hst:starEach (e::es) X.env=(false,eval e X.env)::starEach es X.env:=by rfl) (hpl:(backTo cpos (starEach es X.env)).any (·.1)=false:=by rfl) :
    PS X (.Raise (some (.Call (.Name x np) (e::es) [] cpos)) none pos) (rM EX t):=by
  intro pins s σ H D I h
  obtain⟨bm,N,nm,qn,bs,hdct,sn,sub,ab,col,dd,k0,k1,k2,k3,k5,mN,oC,hN,hni,TL,_⟩:=fo (I.ok.mod.kin) he
  refine wpAny_Raise_call_subT (C:=C) (nm:=nm) (q:=qn) (N:=N) (bs:=bs) (bm:=bm) (hdct:=hdct) (sn:=sn) (sub:=sub) (ab:=ab) (col:=col) (dd:=dd) (k0:=k0) (k1:=k1) (k2:=k2) (k3:=k3) (k5:=k5)
    PySem.F.excBase_ValueError (mN:=mN) (TL.hasType (by decide)) (I.ok.hd hc) (by rw[hst];show (false || (backTo cpos (starEach es X.env)).any (·.1))=false;rw[hpl];rfl) hni (eZ I hg hm ⟨rfl,?_⟩ hd)
  have hA:=ha cpos pins s σ H _ I h
  rw[hst] at hA ⊢
  refine Calls.evalArgs_plain (thn hA fun us s1 ⟨vs,H1,I1,r,z,q⟩=>⟨rfl,?_,I1.bk _ _ oC,hN.keeps I1.bk,TL.keeps I1.bk,fun h' a hmk=>hx pins σ H1 s1 h' a us I1 hmk q⟩)
  rw[<- r.length]
  exact bP (by omega)
end
section
variable {P:Program} {w:World} {K:W.Frag} {mg:Str->Option Value} {base:Heap} {N:List Str} {qual:Str} {scope:Scope} {f:Addr} {cd:Value} {A:Around} {outer:List Env} {s₀:Shared} {H₀:Hp} {E:XK}
theorem eK {C:Addr}:∀ pins σ H s h' a vs,Inv (cm (CXe P w) P w K mg base N qual scope f cd A outer s₀ H₀ E) pins σ H s->Heap.MadeExcOf s.heap h' a (.ref C) vs->E (.ref C) none H ->
    (cm (CXe P w) P w K mg base N qual scope f cd A outer s₀ H₀ E).xe (.ref a) { s with heap:=h' }:=fun pins σ H s h' a vs I hmk q=>
  wpAny_mono (Inv.raise (M:=model P w) (E':=fun _ _=>False) I rfl rfl rfl hmk) (fun _ s'' x=>⟨a,.ref C,H,rfl,x,q⟩) fun _ _ z=>z.elim
theorem cb:gk (CXe P w) (cm (CXe P w) P w K mg base N qual scope f cd A outer s₀ H₀ E) E:=fun pins σ H s e s' I h=>by
  obtain⟨a,cls,H',rfl,x,q⟩:=h
  exact wpAny_mono (Inv.pass (M:=model P w) (E':=fun _ _=>False) I rfl rfl rfl x) (fun _ s'' y=>⟨a,cls,H',rfl,y,q⟩) fun _ _ z=>z.elim
theorem Fun.okE {x qual:Str} {st:Stmt} {f:Addr} {fd:FuncData} {N ps:List Str} {k:Nat} {sp:Sp} (F:Fun K x qual st f fd) (S:aF N ps (ah st)) (len:∀ vs H Q E,sp vs H Q E->vs.length=ps.length)
    (hbody:∀ (cdv:Value) (A:Around) (outer:List Env) (s:Shared) (H:Hp) (vs:List V) (Q:VK) (E:XK),Room k (A.deeper (envOfC qual (ah st) s.heap.objs.size f cdv))->sp vs H Q E ->
      ∃ t,QSs (cm (CXe P w) P w K mg base N qual (ah st) f cdv A outer s H E) (aA st) t/\t { nx:=fun _ H'=>Q .non H',rt:=Q } (start N vs) H):FnOk P w K mg base (CXe P w) (k+1) f fd ps sp:=by
  obtain⟨oc,od,kV,doc,pm,an,cdv,ct,osl,rfl,lk,hcd⟩:=F.ex
  refine xb lk hcd S len fun A outer s H vs Q E hr hsp=>?_
  obtain⟨t,h,q⟩:=hbody cdv A outer s H vs Q E hr hsp
  exact⟨t,h.h,q⟩
end
noncomputable def uQ (a C:Addr):HO:=.ext fun h=>∃ o,h.get? a=some o/\o.cls=.ref C
def yj (K:W.Frag) (Dc:Addr) (i:Nat) (sp:Sp) (t:TA) (ts:TS):TS:=fun D σ H=>t σ H fun vs H1=>sp vs H1 (fun _ H2=>D.nx σ H2) fun cls _ H2=>∃ C,cls=.ref C/\mF K C/\PySem.W.mroIn K C (.ref Dc)=some true /\
  ∀ a,H2 a=none->ts { nx:=fun σ' H'=>D.nx (σ'.set i none) H',rt:=fun _ _=>False,bk:=fun _ _=>False,ct:=fun _ _=>False } (σ.set i (some (.ref a))) (upd H2 a (uQ a C))
section
variable {X:Cx} {k:Nat} {f Dc:Addr} {fd:FuncData} {ps:List Str} {sp:Sp} {x dn n:Str} {i:Nat} {p cpos epos np hpos pos:Pos} {e:Expr} {es:List Expr} {t:TA} {ts:TS} {b0:Stmt} {suite:List Stmt}
theorem wF (F:FnOk X.prog X.w X.K X.mg X.base (CXe X.prog X.w) k f fd ps sp) (hr:Room k X.A) (hg:Gl X x) (hm:X.mg x=some (.ref f)) (hk:PySem.W.keepIn X.K (.ref f)=true) (hb:Binds X.K fd ps [])
    (ha:PA X.nox (e::es) t) (hgD:Gl X dn) (hmD:X.mg dn=some (.ref Dc)) (hD:mF X.K Dc) (hN:X.N.Nodup) (hi:X.N[i]?=some n) (hn:X.env.scope.names.lookup n=some .local) (hstk:X.stack=X.env::X.outer) (hfr:X.env.frame=some X.env.locals) (hex:X.ex=[])
    (hs:∀ a,PSs (X.hand a) (b0::suite) ts)
    (hdb:(x == ("__debug__" : Str))=false:=by decide) (hdd:(dn == ("__debug__" : Str))=false:=by decide) (he:starEach (e::es) X.env=(false,eval e X.env)::starEach es X.env:=by rfl) (hpl:(backTo cpos (starEach es X.env)).any (·.1)=false:=by rfl)
    (hsw:swapsWith (.Call (.Name x p) (e::es) [] cpos) none epos.line X.env=pure false:=by rfl) :
    PS X (.Try [.Expr (.Call (.Name x p) (e::es) [] cpos) epos] [.ExceptHandler (some (.Name dn np)) (some n) (b0::suite) hpos] [] [] pos) (yj X.K Dc i sp t ts):=by
  intro pins s σ H D I h
  refine wpAny_Try_except (wpAny_execs_cons (wpAny_Expr_any (wpAny_Call_Name_kw (eZ I hg hm ?_ hdb)) I.quiet hsw))
  refine PySem.W.callWith_K (h₀:=X.base) I.ok.mod.kin hk (wpAny_mono (ha cpos pins s σ H _ (I.wish _) h) (fun us s1 ⟨vs,H1,I1n,r,q⟩=>⟨I1n.kIn,?_⟩) fun _ _ z=>z.elim) he hpl
  have I1:Inv X pins σ H1 s1:=I1n.unwish
  have hl:(us++[]).length=ps.length:=by rw[List.append_nil,<- r.length];exact F.len _ _ _ _ q
  have hbb:=hb s1 us I1.kIn hl
  rw[List.append_nil] at hbb
  refine wpAny_call (codeAny_mono (F.run X.A X.stack s1 H1 ⟨us,[]⟩ us vs _ _ hr I1.env0 hbb r q) fun res s' hq=>?_)
  cases res with
  | ok fl=>
    cases fl with
    | ret u=>
      obtain⟨v,H2,I2,_,q2⟩:=I1.after hq
      exact wpAny_execs_nil (wpAny_execs_nil ⟨σ,H2,I2,q2⟩)
    | next=>exact False.elim hq
    | brk=>exact False.elim hq
    | cont=>exact False.elim hq
  | error ev=>
    obtain⟨a,cls,H2,rfl,x,C,rfl,hC,hmro,q2⟩:=hq
    obtain⟨B,a0,fly,big⟩:=x.fly
    have hfrm:X.A.frames=some (X.env::X.outer):=by rw[<- hstk];exact I.ok.frames
    rw[hstk] at fly
    have keep:∀ h6:Heap,B.StaysIn h6->s'.heap.UpToSlots h6->∀ tk:Nat,Inv X pins σ H2 { s' with heap:=h6,toks:=tk }:=fun h6 st up tk=>by
      have slots:∀ b o,s'.heap.get? b=some o->b ∈ frs X.stack->∃ sl,h6.get? b=some { o with slots:=sl }:=fun b o e hb=>by
        rw[hstk] at hb
        obtain⟨_,o',e',nf⟩:=fly.2.2.1.mem hb
        rw[e] at e'
        cases e'
        exact up b o e nf
      have hfree':∀ b ∈ frs X.stack,H2 b=none:=fun b hb=>by
        obtain⟨_,o,e,_⟩:=I1.stack.mem hb
        exact x.un.free b o e (I1.stkFree b hb) (by simp)
      refine I1.call' (ch:=[]) x.os (x.un.fly (fun b hb=>.inl hb) st (fun b o e n hb=>big b o hb n e) slots fun b hb=>hb) (x.hok.fly hfree' st (fun b o e n hb=>big b o (.inl hb) n e)) x.bare (fun b z=>absurd z (by simp))
    refine wpAny_looks_onW hfrm hfr fly fun h4 held4 sm4=>wpAny_landsW held4 fun h5 fl5 sm5=>?_
    have I5:=keep h5 fl5.1 (sm4.trans sm5) s'.toks
    obtain⟨oe,hoe,hoc⟩:=fl5.there
    refine wpAny_handleBy_cons (codeAny_handlers_test (eZ (I5.hand a) hgD hmD (fJ (K:=X.K) I5.kIn hC hD hoe hoc hmro ?_) hdd)) (by intro z;cases z)
    refine codeAny_handlers_suite_as (lands_againW fl5 fun h6 fl6 sm6=>?_)
    have I6:=keep h6 fl6.1 ((sm4.trans sm5).trans sm6) s'.toks
    obtain⟨oe6,hoe6,hoc6⟩:=fl6.there
    have hnew1:s1.heap.get? a=none:=x.new
    have I7:Inv X pins σ (upd H2 a (uQ a C)) { s' with heap:=h6 }:=by
      refine I6.track x.free (fun u z=>?_) ⟨⟨oe6,hoe6,hoc6⟩,⟨oe6,hoe6⟩,fun h1 h2 ⟨o,e1,e2⟩ st=>⟨o,st o e1,e2⟩⟩ (fun z=>?_) (fun y c e z=>?_) (fun p hp z=>?_)
      · obtain⟨o',e1⟩:=I1.base.there a u z (by rw[hex];simp)
        rw[hnew1] at e1
        cases e1
      · obtain⟨m,hns,_⟩:=I1.loc
        obtain⟨oL,_,_,hoL,_⟩:=hns
        rw[<- z,hnew1] at hoL
        cases hoL
      · obtain⟨v,oc,hoc',_⟩:=I1.cell y c e
        rw[z,hnew1] at hoc'
        cases hoc'
      · obtain⟨e1,_⟩:=I1.pin p hp
        rw[z,hnew1] at e1
        cases e1
    refine dR (X:=X.hand a) (v:=.ref a) (I7.hand a) hN hi (.inl hn) rfl (fun s7 I8=>?_) (.inr hn)
    refine wpAny_mono (hs a pins s7 _ _ _ I8 (q2 a x.free)) (fun fw s8 hfw=>?_) fun _ _ z=>z.elim
    cases fw with
    | next=>
      obtain⟨σ',H9,I9,q9⟩:=hfw
      have I9':=I9.unhand I.ok
      obtain⟨m,hns,hloc⟩:=I9'.loc
      refine wpAny_nameGoes_keeps hn hns (by rw[I.ok.kind];rfl) fun h10 v hn10 hs10=>?_
      exact⟨σ'.set i none,H9,I9'.gone hN hi hns hloc hn10 hs10,q9⟩
    | ret u=>
      obtain⟨_,_,_,_,_,z⟩:=hfw
      exact z.elim
    | brk=>
      obtain⟨_,_,_,z⟩:=hfw
      exact z.elim
    | cont=>
      obtain⟨_,_,_,z⟩:=hfw
      exact z.elim
end
end L2
namespace L2
open PySem PySem.Spec PySem.Calls PyProof.Rows PySem.W Builtin Builtin.ObjectAttr Builtin.Getset_descriptor
structure sI (K:Frag) (C:Addr):Prop where
  ex:mF K C
  ga:findIn K (.ref C) "__getattribute__" = some (some (.builtin "BaseException.__getattribute__"))
  gt:findIn K (.ref C) "__getattr__" = some none
  ca:findIn K (.ref C) "__class__" = some (some (.builtin "object.__class__"))
  sp:specialIn K (.builtin "object.__class__") "__get__" = some (some (.builtin "getset_descriptor.__get__"))
  tk:takesIn K (.builtin "object.__class__")=some true
  mo:mroIn K C (.type "object")=some true
  mb:mroIn K C (.type "BaseException")=some true
def jE (a C:Addr) (h:Heap):Prop:=∃ o,h.get? a=some o/\o.cls=.ref C
section
variable {prog:Program} {w:World} {A:Around} {E:Value->Shared->Prop} {K:Frag} {a C:Addr} {s:Shared}
theorem eg {M:Model} {h:Heap} (p:jE a C h):Looks M h (typeOf (.ref a)) (.ref C):=by
  obtain⟨o,h1,h2⟩:=p
  exact h2 ▸ (Looks.ld h1).andThen .now
theorem gT {R:Result->Shared->Prop} {tp:Value} (X:K.In s.heap) (I:jE a C s.heap) (hm:mroIn K C (.type "object")=some true)
    (h:R (.ok (.ret (.ref C))) s):codeAny (model prog w) A (.call (.builtin "getset_descriptor.__get__") ⟨[.builtin "object.__class__",.ref a,tp],[]⟩) R s:=by
  obtain⟨hh,g,dr,t,os⟩:=s
  have L0:=eg (M:=model prog w) I
  have L1:=looks_mroIn (M:=model prog w) X hm
  refine codeAny_call_builtin KF.slot_gs.plain KF.entry_gs (KF.slot_gs.check _ _ _ _ _ _ _ _ KF.type_class (KF.args_gs _ _ _) ?_)
  unfold Builtin.«getset_descriptor.__get__» descrGet
  rw[dga_obj]
  refine wpAny_bind (wpAny_pure ?_)
  unfold descrGetter descrCheckInstance descrNameAndClass isInstance
  simp only[KF.owner_class]
  repeat lk
  refine⟨Code.quiet_builtin _ (by decide +kernel),codeAny_builtin KF.entry_class ?_⟩
  unfold Builtin.«object.__class__» shownTypeOf
  repeat lk
  exact h
theorem iF {M:Model} {nameV:Value} {Q:Unit->Shared->Prop} (X:K.In s.heap) (I:jE a C s.heap) (hm:mroIn K C (.type "BaseException")=some true) (hq:Q () s):wpAny M A (checkBuiltinCall "BaseException.__getattribute__" ⟨[.ref a,nameV],[]⟩) Q E s:=by
  obtain⟨hh,g,dr,t,os⟩:=s
  have hk:builtinKind "BaseException.__getattribute__" = some .slot:=by decide +kernel
  have hsplit:splitId "BaseException.__getattribute__" = some ("BaseException", "__getattribute__"):=by decide +kernel
  have ha:=F.args_bexc_ga (.ref a) nameV
  have L0:=eg (M:=M) I
  have L1:=looks_mroIn (M:=M) X hm
  simp only[checkBuiltinCall,hk,hsplit]
  refine wpAny_bind ?_
  unfold isInstance
  refine wpAny_bind (L0.at (L1.at ?_))
  repeat (first | assumption | wp_step)
theorem oX {tk:Tok} {Q:Fin->Shared->Prop} (X:K.In s.heap) (I:jE a C s.heap) (c:sI K C) (hq:Q (.done (.ret (.ref C))) s):wpAny (model prog w) A (Builtin.«object.__getattribute__» ⟨[.ref a,.str "__class__" tk],[]⟩) Q E s:=by
  obtain⟨hh,g,dr,t,os⟩:=s
  have L0:=eg (M:=model prog w) I
  have L1:=looks_findIn (M:=model prog w) X c.ca
  have f5:=F.typeOf_object_class
  have f6:=F.slot_gs_get.lookup
  have f7:=F.slot_gs_set.lookup
  have hT5:(⟨hh,g,dr,t,os⟩ : Shared).TypeIs (.builtin "object.__class__") "getset_descriptor":=F.typeOf_object_class
  repeat (any_goals (first | assumption | with_reducible refine L0.at ?_ | with_reducible refine L1.at ?_ | wp_step))
  refine gT X I c.mo ?_
  repeat (any_goals (first | assumption | wp_step))
theorem xg {Q:Option Value->Shared->Prop} (X:K.In s.heap) (I:jE a C s.heap) (c:sI K C) (hq:Q (some (.ref C)) { s with toks:=s.toks+1 }):wpAny (model prog w) A (getAttr? (.ref a) "__class__") Q E s:=by
  obtain⟨hh,g,dr,t,os⟩:=s
  have L0:=eg (M:=model prog w) I
  have L1:=looks_findIn (M:=model prog w) X c.ga
  have L2':=looks_findIn (M:=model prog w) X c.gt
  have f3:=PySem.F.excAttr_ValueError.ga.bind (.ref a)
  have hx2:(Value.builtin "BaseException.__getattribute__" == Value.builtin "object.__getattribute__")=false:=by decide +kernel
  have hx1:(onTheHeap (Value.ref C) && Value.builtin "BaseException.__getattribute__" == Value.builtin "object.__getattribute__")=false:=by rw[hx2];rfl
  unfold getAttr? getAttrBy?
  repeat (any_goals (first | assumption | with_reducible refine L0.at ?_ | with_reducible refine L1.at ?_ | with_reducible refine L2'.at ?_ | wp_step))
  refine codeAny_call_builtin PySem.F.excAttr_ValueError.ga.plain F.entry_bexc_ga (iF X I c.mb (oX X I c ?_))
  exact handed_on rfl (wpAny_pure hq)
theorem gM (c:sI K C):KitX K (.ref a) (.ref C) (jE a C) where
  ty:=fun _ _ _ I=>eg I
  it:=fun _ h X _=>by
    obtain⟨bm,N,nm,qn,bs,hdct,sn,sub,ab,col,dd,k0,k1,k2,k3,k5,mN,oC,_⟩:=fo X c.ex
    intro A' Q' E' s' k q
    unfold isType loadHead
    exact wpAny_bind (wpAny_loadPart (k _ _ oC) (wpAny_pure q))
  ne:=fun h tp dd its n sl X htp=>by
    obtain⟨bm,N,nm,qn,bs,hdct,sn,sub,ab,col,dd',k0,k1,k2,k3,k5,mN,oC,_⟩:=fo X c.ex
    refine Bool.eq_false_iff.mpr fun q=>?_
    have e:C=tp:=Value.ref.inj (beq_iff_eq.mp q)
    subst e
    have z:=congrArg (fun o:Option Obj=>o.map (·.cls)) (oC.symm.trans htp)
    simp[excClassObj] at z
  ca:=fun X I k=>xg X I c k
end
section
variable {X:Cx}
theorem ia:∀ {ds:List Addr} {us:List Value},Vals (ds.map V.ref) us->us=ds.map Value.ref
  | [],_,r=>by cases r;rfl
  | d::ds,_,r=>by
    rw[List.map_cons] at r
    cases r with
    | cons r1 r2=>
      cases (show _=Value.ref d from r1)
      rw[ia r2]
      rfl
theorem rE:CallR X (.builtin "isinstance") (fun xs H Q=>∃ (a C:Addr) (v:V) (b:Bool),xs=[.ref a,v]/\H a=some (uQ a C)/\sI X.K C /\
    ((∃ D,v=.ref D/\kitOne X.K (.ref C) (.ref D)=some b)\/(∃ T,v=.ty T/\kitOne X.K (.ref C) (.type T)=some b)\/(∃ (p:Addr) (ds:List Addr),v=.ref p/\H p=some (.tup (ds.map V.ref))/\kitAny X.K (.ref C) (ds.map Value.ref)=some b))/\Q (.bl b) H):=by
  intro pins s σ H xs us Q I r h
  obtain⟨a,C,v,b,rfl,ha,c,alt,q⟩:=h
  obtain⟨u,u',rfl,ru,rv⟩:=sQ r
  cases ru
  have hat:jE a C s.heap:=(I.hok a _ ha).1
  have fin:∀ tk,EP X pins σ Q (.bool b) { s with toks:=tk }:=fun tk=>⟨.bl b,H,I.tok tk,rfl,q⟩
  rcases alt with ⟨D,rfl,e⟩ | ⟨T,rfl,e⟩ | ⟨p,ds,rfl,hp,e⟩
  · cases rv
    exact kia_one (gM c) I.kIn hat e (fun z=>nomatch z) fin
  · cases rv
    exact kia_one (gM c) I.kIn hat e (fun z=>nomatch z) fin
  · cases rv
    obtain⟨its,r1,⟨⟨cls,dd,data,sl⟩,ho,hc,n,hd⟩,_⟩:=I.tuple (.of hp)
    simp only at hc hd
    subst hc hd
    rw[ia r1] at ho
    exact kia_tup (gM c) I.kIn hat ho e (fun z=>nomatch z) fin
end
end L2
namespace L2
open PySem PySem.Spec PyProof.Rows
mutual
/-- what a value shows,read through the abstract heap -/
inductive Shw (K:W.Frag) (H:Hp):V->PyData->Prop
  | non:Shw K H .non .none
  | bl (b:Bool):Shw K H (.bl b) (.bool b)
  | int (i:Int):Shw K H (.int i) (.int i)
  | str (x:Str):Shw K H (.str x) (.str x)
  | lst {a:Addr} {vs:List V} {ds:List PyData}:SqL K H a vs->vz K H vs ds->Shw K H (.ref a) (.list ds)
  | tup {a:Addr} {vs:List V} {ds:List PyData}:SqT K H a vs->vz K H vs ds->Shw K H (.ref a) (.tuple ds)
inductive vz (K:W.Frag) (H:Hp):List V->List PyData->Prop
  | nil:vz K H [] []
  | cons {v:V} {d:PyData} {vs:List V} {ds:List PyData}:Shw K H v d->vz K H vs ds->vz K H (v::vs) (d::ds)
end
section
variable {X:Cx} {pins:List (Addr × Obj)} {σ:St} {H:Hp} {s:Shared}
mutual
theorem Inv.reads (I:Inv X pins σ H s):∀ {v:V} {d:PyData} {u:Value},Shw X.K H v d->RelV v u->∃ as,Reads s.heap u d as
  | _,_,_,.non,r=>by cases r;exact⟨_,.none⟩
  | _,_,_,.bl b,r=>by cases r;exact⟨_,.bool b⟩
  | _,_,_,.int i,r=>by obtain⟨t,rfl⟩:=r;exact⟨_,.int i t⟩
  | _,_,_,.str x,r=>by obtain⟨t,rfl⟩:=r;exact⟨_,.str x t⟩
  | _,_,_,.lst h1 h2,r=>by
    cases r
    obtain⟨its,rs,⟨o,n,e,c,_,dt⟩,_⟩:=I.list h1
    obtain⟨as,ra⟩:=I.readsA h2 rs
    exact⟨_,.list e c dt (by simpa using ra)⟩
  | _,_,_,.tup h1 h2,r=>by
    cases r
    obtain⟨its,rs,⟨o,e,c,n,dt⟩,_⟩:=I.tuple h1
    obtain⟨as,ra⟩:=I.readsA h2 rs
    exact⟨_,.tuple e c dt (by simpa using ra)⟩
theorem Inv.readsA (I:Inv X pins σ H s):∀ {vs:List V} {ds:List PyData} {us:List Value},vz X.K H vs ds->Vals vs us->∃ as,ReadsAll s.heap us ds as
  | _,_,_,.nil,r=>by cases r;exact⟨_,.nil⟩
  | _,_,_,.cons h1 h2,r=>by
    cases r with
    | cons r1 r2=>
      obtain⟨as,ra⟩:=I.reads h1 r1
      obtain⟨bs,rb⟩:=I.readsA h2 r2
      exact⟨_,.cons ra rb⟩
end
end
section
variable {X:Cx} {pins:List (Addr × Obj)} {σ:St} {H:Hp} {s:Shared} {te:TE} {e:Expr} {pos:Pos} {k:Nat}
def ym (te:TE):TE:=fun σ H Q=>te σ H fun v H1=>(∃ x,v=.str x/\x.length <= sizeLine/\Q (.str x) H1)\/(∃ i:Int,v=.int i/\i.natAbs.log2 < 1920/\Q (.str (toString i)) H1)
theorem wJ (he:PE X e te):PE X (.FormattedValue e (-1) none pos) (ym te):=fun pins s σ H Q I h=>
  wpAny_FormattedValue_plain (thn (he pins s σ H _ I h) fun u s1 ⟨v,H1,I1,r,q⟩=>by
    rcases q with ⟨x,rfl,hx,q⟩ | ⟨i,rfl,hi,q⟩
    · obtain⟨t,rfl⟩:=r
      exact wpAny_formatField_str ⟨.str x,H1,I1,⟨_,rfl⟩,q⟩ ⟨.str x,H1,I1.tok _,⟨_,rfl⟩,q⟩ hx
    · obtain⟨t,rfl⟩:=r
      exact wpAny_formatField_int hi ⟨.str _,H1,I1.tok _,⟨_,rfl⟩,q⟩)
def yk (K:W.Frag) (te:TE):TE:=fun σ H Q=>te σ H fun v H1=>∃ d:PyData,Shw K H1 v d/\d.showable=true/\d.hasDict=false/\d.depth <= 64/\d.shown.length <= sizeLine/\Q (.str d.shown) H1
theorem wI (hr:Room k X.A) (he:PE X e te):PE X (.FormattedValue e 114 none pos) (yk X.K te):=fun pins s σ H Q I h=>
  wpAny_FormattedValue_repr (thn (he pins s σ H _ I h) fun u s1 ⟨v,H1,I1,r,d,hw,h1,h2,h3,h4,q⟩=>by
    have fin:∀ (h':Heap) (t tk:Nat),(∀ b o,s1.heap.get? b=some o->h'.get? b=some o)->wpAny (model X.prog X.w) X.A (formatField (.str d.shown t) Str.empty) (EP X pins σ Q) X.xe { s1 with heap:=h',toks:=tk }:=fun h' t tk kp=>
      have I2:∀ tk,Inv X pins σ H1 { s1 with heap:=h',toks:=tk }:=fun tk=>I1.un (t':=tk) (Un.kept fun b o e=>kp b o e) (fun a o e=>(I1.hok a o e).stay (fun b u _ q=>kp b u q) (fun _ q=>q) fun _ _ q=>q)
      wpAny_formatField_str ⟨.str _,H1,I2 _,⟨_,rfl⟩,q⟩ ⟨.str _,H1,I2 _,⟨_,rfl⟩,q⟩ h4
    have hu:=hr.units
    cases hw with
    | non=>cases r;exact pyReprObj_none (fin _ _ _ fun _ _ e=>e)
    | bl b=>cases r;exact pyReprObj_bool (fin _ _ _ fun _ _ e=>e)
    | int i=>obtain⟨t,rfl⟩:=r;exact pyReprObj_int (by simpa [PyData.showable] using h1) (fin _ _ _ fun _ _ e=>e)
    | str x=>obtain⟨t,rfl⟩:=r;exact pyReprObj_str (fin _ _ _ fun _ _ e=>e) h4
    | lst a1 a2=>
      obtain⟨as,rd⟩:=I1.reads (.lst a1 a2) r
      cases r
      exact pyReprObj_of_reads rd h1 (PyData.noDict_hsm h2) hr.gd (by omega) (fun _ _ e=>e) (fun h' u tk kp=>fin h' u tk kp) h4
    | tup a1 a2=>
      obtain⟨as,rd⟩:=I1.reads (.tup a1 a2) r
      cases r
      exact pyReprObj_of_reads rd h1 (PyData.noDict_hsm h2) hr.gd (by omega) (fun _ _ e=>e) (fun h' u tk kp=>fin h' u tk kp) h4)
def mT:List TE->Str->TE
  | [],acc=>fun _ H Q=>Q (.str acc) H
  | t::ts,acc=>fun σ H Q=>t σ H fun v H1=>∃ y,v=.str y/\(acc++y).length <= sizeLine/\mT ts (acc++y) σ H1 Q
structure QJ (X:Cx) (es:List Expr) (ts:List TE):Prop where
  h:∀ (acc:Str) (pins:List (Addr × Obj)) (s:Shared) (σ:St) (H:Hp) (Q:VK),acc.length <= sizeLine->Inv X pins σ H s->mT ts acc σ H Q->Joins (model X.prog X.w) X.A X.xe (evalEach es X.env) acc (fun out s1=>out.length <= sizeLine/\EP X pins σ Q (.str out s1.toks) { s1 with toks:=s1.toks+1 }) s
theorem nJ:QJ X [] []:=⟨fun acc pins s σ H Q ha I h=>⟨ha,.str acc,H,I.tok _,⟨_,rfl⟩,h⟩⟩
theorem cZ {es:List Expr} {ts:List TE} (he:QE X e te) (hr:QJ X es ts):QJ X (e::es) (te::ts):=⟨fun acc pins s σ H Q ha I h=>by
  show wpAny _ _ (eval e X.env) _ _ _
  refine thn (he.h pins s σ H _ I h) fun u s1 ⟨v,H1,I1,r,y,ev,hy,q⟩=>?_
  subst ev
  obtain⟨t,rfl⟩:=r
  exact⟨y,t,rfl,hy,hr.h _ _ _ _ _ _ hy I1 q⟩⟩
theorem jb {e2:Expr} {es:List Expr} {ts:List TE} (h:QJ X (e::e2::es) ts):QE X (.JoinedStr (e::e2::es) pos) (mT ts Str.empty):=⟨fun pins s σ H Q I q=>wpAny_JoinedStr (h.h _ _ _ _ _ _ (by decide) I q)⟩
theorem wC (he:QE X e te):QE X (.FormattedValue e (-1) none pos) (ym te):=⟨wJ he.h⟩
theorem nN (hr:Room k X.A) (he:QE X e te):QE X (.FormattedValue e 114 none pos) (yk X.K te):=⟨wI hr he.h⟩
end
end L2
namespace L2
open PySem PySem.Spec PyProof.Rows
section
variable {X:Cx}
theorem eL {x:Str} {C:Addr} {e:Expr} {es:List Expr} {t:TA} {np cpos pos:Pos} {EX:Hp->Prop} (hc:X.calm=true) (hg:Gl X x) (hm:X.mg x=some (.ref C)) (he:mF X.K C) (ha:QA X (e::es) t)
    (hx:∀ pins σ H s h' a vs,Inv X pins σ H s->Heap.MadeExcOf s.heap h' a (.ref C) vs->EX H->X.xe (.ref a) { s with heap:=h' })
    (hd:(x == ("__debug__" : Str))=false:=by decide) (hst:starEach (e::es) X.env=(false,eval e X.env)::starEach es X.env:=by rfl) (hpl:(backTo cpos (starEach es X.env)).any (·.1)=false:=by rfl) :
    QS X (.Raise (some (.Call (.Name x np) (e::es) [] cpos)) none pos) (rM EX t):=⟨qm hc hg hm he ha.h hx hd hst hpl⟩
variable {k:Nat} {f Dc:Addr} {fd:FuncData} {ps:List Str} {sp:Sp} {x dn n:Str} {i:Nat} {p cpos epos np hpos pos:Pos} {e:Expr} {es:List Expr} {t:TA} {ts:TS} {b0:Stmt} {suite:List Stmt}
theorem wv (F:FnOk X.prog X.w X.K X.mg X.base (CXe X.prog X.w) k f fd ps sp) (hr:Room k X.A) (hg:Gl X x) (hm:X.mg x=some (.ref f)) (hk:PySem.W.keepIn X.K (.ref f)=true) (hb:Binds X.K fd ps [])
    (ha:QA X.nox (e::es) t) (hgD:Gl X dn) (hmD:X.mg dn=some (.ref Dc)) (hD:mF X.K Dc) (hN:X.N.Nodup) (hi:X.N[i]?=some n) (hn:X.env.scope.names.lookup n=some .local) (hstk:X.stack=X.env::X.outer) (hfr:X.env.frame=some X.env.locals) (hex:X.ex=[])
    (hs:∀ a,QSs (X.hand a) (b0::suite) ts)
    (hdb:(x == ("__debug__" : Str))=false:=by decide) (hdd:(dn == ("__debug__" : Str))=false:=by decide) (he:starEach (e::es) X.env=(false,eval e X.env)::starEach es X.env:=by rfl) (hpl:(backTo cpos (starEach es X.env)).any (·.1)=false:=by rfl)
    (hsw:swapsWith (.Call (.Name x p) (e::es) [] cpos) none epos.line X.env=pure false:=by rfl) :
    QS X (.Try [.Expr (.Call (.Name x p) (e::es) [] cpos) epos] [.ExceptHandler (some (.Name dn np)) (some n) (b0::suite) hpos] [] [] pos) (yj X.K Dc i sp t ts):=
  ⟨wF F hr hg hm hk hb ha.h hgD hmD hD hN hi hn hstk hfr hex (fun a=>(hs a).h) hdb hdd he hpl hsw⟩
end
end L2
namespace L2
open PySem PySem.Spec PyProof.Rows
section
variable {κ:Type} [DecidableEq κ]
noncomputable def dP (kvs:List (κ × V)) (k:κ):Option V:=(kvs.find? fun kv=>decide (kv.1=k)).map (·.2)
noncomputable def mD (kvs:List (κ × V)) (k:κ) (v:V):List (κ × V):=
  if (kvs.any fun kv=>decide (kv.1=k))=true then kvs.map (fun kv=>if kv.1=k then (kv.1,v) else kv) else kvs++[(k,v)]
theorem bQ {p:κ × V} {r:List (κ × V)} {k:κ} (e:p.1=k):dP (p::r) k=some p.2:=by simp[dP,List.find?_cons,e]
theorem bR {p:κ × V} {r:List (κ × V)} {k:κ} (e:¬ p.1=k):dP (p::r) k=dP r k:=by simp[dP,List.find?_cons,e]
theorem gn (k:κ):∀ kvs:List (κ × V),(kvs.any fun kv=>decide (kv.1=k))=(dP kvs k).isSome
  | []=>rfl
  | p::r=>by
    rw[List.any_cons]
    by_cases e:p.1=k
    · simp only[bQ e,decide_eq_true e,Bool.true_or,Option.isSome_some]
    · rw[bR e,decide_eq_false e,Bool.false_or];exact gn k r
theorem jH (k j:κ) (y:V):∀ kvs:List (κ × V),dP (kvs.map fun kv=>if kv.1=k then (kv.1,y) else kv) j=(dP kvs j).map fun x=>if j=k then y else x
  | []=>rfl
  | p::r=>by
    have ih:=jH k j y r
    rw[List.map_cons]
    by_cases h:p.1=k
    · rw[if_pos h]
      by_cases e:p.1=j
      · rw[bQ (p:=(p.1,y)) e,bQ e,Option.map_some,if_pos (e.symm.trans h)]
      · rw[bR (p:=(p.1,y)) e,bR e,ih]
    · rw[if_neg h]
      by_cases e:p.1=j
      · rw[bQ (p:=p) e,bQ e,Option.map_some,if_neg (fun z=>h (e.trans z))]
      · rw[bR (p:=p) e,bR e,ih]
theorem ie (k j:κ) (y:V):∀ kvs:List (κ × V),dP kvs k=none->dP (kvs++[(k,y)]) j=if j=k then some y else dP kvs j
  | [],_=>by
    by_cases e:k=j
    · rw[if_pos e.symm];exact bQ (p:=(k,y)) e
    · rw[if_neg (fun z=>e z.symm)];exact bR (p:=(k,y)) e
  | p::r,hn=>by
    rw[List.cons_append]
    have hk:¬ p.1=k:=fun z=>by rw[bQ z] at hn;cases hn
    rw[bR hk] at hn
    have ih:=ie k j y r hn
    by_cases e:p.1=j
    · rw[bQ e,bQ e,if_neg (fun z=>hk (e.trans z))]
    · rw[bR e,bR e,ih]
theorem pQ (kvs:List (κ × V)) (k j:κ) (y:V):dP (mD kvs k y) j=if j=k then some y else dP kvs j:=by
  unfold mD
  by_cases a:(kvs.any fun kv=>decide (kv.1=k))=true
  · rw[if_pos a,jH]
    rw[gn] at a
    by_cases e:j=k
    · obtain⟨x,hx⟩:=Option.isSome_iff_exists.mp a
      rw[if_pos e,e,hx,Option.map_some,if_pos rfl]
    · rw[if_neg e]
      cases dP kvs j with
      | none=>rfl
      | some x=>rw[Option.map_some,if_neg e]
  · rw[if_neg a]
    refine ie k j y kvs ?_
    rw[gn] at a
    cases q:dP kvs k with
    | none=>rfl
    | some x=>rw[q] at a;exact (a rfl).elim
theorem jm (kvs:List (κ × V)) (k:κ) (v:V):(mD kvs k v).length <= kvs.length+1:=by
  unfold mD
  split
  · rw[List.length_map];omega
  · rw[List.length_append,List.length_cons,List.length_nil];omega
theorem RelO.isSome_eq {o:Option V} {u:Option Value} (r:RelO o u):o.isSome=u.isSome:=by
  cases o with
  | none=>cases u with
    | none=>rfl
    | some _=>exact (show False from r).elim
  | some _=>cases u with
    | none=>exact (show False from r).elim
    | some _=>rfl
theorem KV.val {kvs:List (κ × V)} {vs:List (κ × Value)} (r:KV kvs vs) (k:κ):RelO (dP kvs k) (valueAt vs k):=by
  unfold KV at r
  induction r with
  | nil=>exact True.intro
  | @cons p q ps qs h t ih=>
    obtain⟨h1,h2⟩:=h
    by_cases e:p.1=k
    · have e':q.1=k:=h1.symm.trans e
      have b:valueAt (q::qs) k=some q.2:=by simp[valueAt,List.find?_cons,e']
      rw[bQ e,b];exact h2
    · have e':¬ q.1=k:=fun z=>e (h1.trans z)
      have b:valueAt (q::qs) k=valueAt qs k:=by simp[valueAt,List.find?_cons,e']
      rw[bR e,b];exact ih
theorem KV.any {kvs:List (κ × V)} {vs:List (κ × Value)} (r:KV kvs vs) (k:κ):(kvs.any fun kv=>decide (kv.1=k))=vs.any fun kv=>decide (kv.1=k):=by
  unfold KV at r
  induction r with
  | nil=>rfl
  | cons h t ih=>rw[List.any_cons,List.any_cons,ih,h.1]
theorem KV.repl {kvs:List (κ × V)} {vs:List (κ × Value)} (r:KV kvs vs) (k:κ) {y:V} {u:Value} (ry:RelV y u) :
    KV (kvs.map fun kv=>if kv.1=k then (kv.1,y) else kv) (vs.map fun kv=>if kv.1=k then (kv.1,u) else kv):=by
  unfold KV at r ⊢
  induction r with
  | nil=>exact .nil
  | @cons p q ps qs h t ih=>
    rw[List.map_cons,List.map_cons]
    refine .cons ?_ ih
    obtain⟨h1,h2⟩:=h
    by_cases e:p.1=k
    · rw[if_pos e,if_pos (h1.symm.trans e)];exact⟨h1,ry⟩
    · rw[if_neg e,if_neg (fun z=>e (h1.trans z))];exact⟨h1,h2⟩
theorem KV.put {kvs:List (κ × V)} {vs:List (κ × Value)} (r:KV kvs vs) (k:κ) {y:V} {u:Value} (ry:RelV y u):KV (mD kvs k y) (stored vs k u):=by
  unfold mD stored
  rw[r.any k]
  by_cases e:(vs.any fun kv=>decide (kv.1=k))=true
  · rw[if_pos e,if_pos e];exact r.repl k ry
  · rw[if_neg e,if_neg e];exact Paired.snoc r ⟨rfl,ry⟩
end
theorem jq {P:Program} {w:World} {k:Key} {u:Value} (r:RelV (kV k) u):(aU P w).is k u=true:=by
  cases k with
  | inl i=>obtain⟨t,e⟩:=(show ∃ t,u=Value.int i t from r);subst e;exact jl P w i t
  | inr x=>obtain⟨t,e⟩:=(show ∃ t,u=Value.str x t from r);subst e;exact jk P w x t
theorem iD {P:Program} {w:World}:∀ {ks:List Key} {us:List Value},Vals (ks.map kV) us->ItemsAre (aU P w) ks us
  | [],_,r=>by rw[List.map_nil] at r;cases r;exact .nil
  | k::ks,_,r=>by
    rw[List.map_cons] at r
    cases r with
    | cons h t=>exact .cons (jq h) (iD t)
abbrev KT (H:Hp):List (List Key × V)->List (List Key × Addr × Value)->Prop:=Paired fun p q=>p.1=q.1/\H q.2.1=some (.tup (p.1.map kV))/\RelV p.2 q.2.2
theorem KT.val {H:Hp} {kvs:List (List Key × V)} {xs:List (List Key × Addr × Value)} (r:KT H kvs xs) (k:List Key):RelO (dP kvs k) ((atKey xs k).map (·.2)):=by
  induction r with
  | nil=>exact True.intro
  | @cons p q ps qs h t ih=>
    obtain⟨h1,_,h2⟩:=h
    by_cases e:p.1=k
    · have e':q.1=k:=h1.symm.trans e
      have b:atKey (q::qs) k=some q.2:=by simp[atKey,List.find?_cons,e']
      rw[bQ e,b];exact h2
    · have e':¬ q.1=k:=fun z=>e (h1.trans z)
      have b:atKey (q::qs) k=atKey qs k:=by simp[atKey,List.find?_cons,e']
      rw[bR e,b];exact ih
section
variable {P:Program} {w:World} {H:Hp} {h:Heap} {a:Addr}
theorem wq {u:HO} (ok:HOk P w H h) (e:Rd H a u):ObjOk P w H h a u:=e.ok ok
theorem pj {kvs:List (Key × V)} (ok:HOk P w H h) (e:Rd H a (.dK kvs)):kvs.length <= sizeLine/\(a == sysModules)=false/\∃ vs,KV kvs vs/\h.DictOf (aU P w) a vs:=
  show ObjOk P w H h a (.dK kvs) from wq ok e
theorem yd {kvs:List (Key × V)} (ok:HOk P w H h) (e:H a=some (.dK kvs)):kvs.length <= sizeLine/\(a == sysModules)=false/\∃ vs,KV kvs vs/\h.DictOf (aU P w) a vs:=pj ok (.inl e)
theorem iC {ks:List Key} (ok:HOk P w H h) (e:H a=some (.tup (ks.map kV))):(tupleKind (aU P w)).is h ks a:=by
  obtain⟨_,its,r,o,h1,h2,n,h3⟩:=(show ObjOk P w H h a (.tup (ks.map kV)) from ok a _ e)
  exact⟨o,its.toArray,n,h1,h2,h3,by simpa using iD r⟩
theorem rh {kvs:List (List Key × V)} (ok:HOk P w H h) (e:Rd H a (.dT kvs)):kvs.length <= sizeLine/\(a == sysModules)=false /\
    ∃ xs,KT H kvs xs/\h.DictOfH (tupleKind (aU P w)) a xs:=by
  obtain⟨z,y,xs,r,o,es,ep,h1,h2,h3,h4,h5⟩:=(show ObjOk P w H h a (.dT kvs) from wq ok e)
  refine⟨z,y,xs,r,o,es,ep,h1,h2,h3,h4,fun x hx=>?_,h5⟩
  have all:∀ {l:List (List Key × V)} {m:List (List Key × Addr × Value)},KT H l m->∀ x ∈ m,(tupleKind (aU P w)).is h x.1 x.2.1:=by
    intro l m q
    induction q with
    | nil=>intro x hx;exact nomatch hx
    | @cons p q ps qs hq t ih=>
      intro x hx
      rcases List.mem_cons.mp hx with e | hx
      · subst e
        exact iC ok (by rw[<- hq.1];exact hq.2.1)
      · exact ih x hx
  exact all r x hx
end
def DGet (H:Hp) (a:Addr) (y:V) (r:Option V):Prop:=
  (∃ kvs k,Rd H a (.dK kvs)/\y=kV k/\r=dP kvs k)\/∃ kvs k b,Rd H a (.dT kvs)/\y=.ref b/\H b=some (.tup (k.map kV))/\r=dP kvs k
theorem DGet.k {H:Hp} {a:Addr} {kvs:List (Key × V)} {k:Key} (e:H a=some (.dK kvs)):DGet H a (kV k) (dP kvs k):=.inl ⟨kvs,k,.inl e,rfl,rfl⟩
section
variable {X:Cx} {pins:List (Addr × Obj)} {σ:St} {H:Hp} {s:Shared} {a:Addr} {y v:V} {u r:Value} {o:Option V} {A:Around} {E:Value->Shared->Prop}
theorem Inv.big (I:Inv X pins σ H s):sysModules < s.heap.objs.size:=by
  have h:mainGlobals < s.heap.objs.size:=(I.mod.glob.keeps I.bk).lt
  exact Nat.lt_trans (by decide) h
theorem pC {Q:Value->Shared->Prop} (hu:A.units+1 < cLine) (I:Inv X pins σ H s) (g:DGet H a y (some v)) (ry:RelV y u) (h:∀ w' s',Inv X pins σ H s'->RelV v w'->Q w' s') :
    wpAny (model X.prog X.w) A (getItem (.ref a) u) Q E s:=by
  rcases g with ⟨kvs,k,e,ey,l⟩ | ⟨kvs,k,b,e,ey,eb,l⟩
  · subst ey
    obtain⟨z,hd,vs,rel,dd⟩:=pj I.hok e
    obtain⟨w',hw,rw'⟩:=RelO.some_of (v:=v) (o:=valueAt vs k) (by rw[l];exact rel.val k)
    exact wpAny_getItem_of (jq ry) dd.mapOf hw (h w' _ (I.tok _) rw')
  · subst ey
    cases (show u=Value.ref b from ry)
    obtain⟨z,hd,xs,rel,dd⟩:=rh I.hok e
    obtain⟨w',hw,rw'⟩:=RelO.some_of (v:=v) (o:=(atKey xs k).map (·.2)) (by rw[l];exact rel.val k)
    obtain⟨p,hp,hp2⟩:=Option.map_eq_some_iff.mp hw
    refine wpAny_getItem_heap (tupleKind_room_in1 hu) (iC I.hok eb) dd hp ?_
    rw[hp2]
    exact h w' _ (I.tok _) rw'
theorem yX {Q:Value->Shared->Prop} (hu:A.units+1 < cLine) (I:Inv X pins σ H s) (g:DGet H a y o) (ry:RelV y u) (h:∀ s',Inv X pins σ H s'->Q (.bool o.isSome) s') :
    wpAny (model X.prog X.w) A (compareOp .In u (.ref a)) Q E s:=by
  rcases g with ⟨kvs,k,e,ey,l⟩ | ⟨kvs,k,b,e,ey,eb,l⟩
  · subst ey
    obtain⟨z,hd,vs,rel,dd⟩:=pj I.hok e
    refine wpAny_in_of (jq ry) hd dd.mapOf ?_
    rw[<- (rel.val k).isSome_eq,<- l]
    exact h _ (I.tok _)
  · subst ey
    cases (show u=Value.ref b from ry)
    obtain⟨z,hd,xs,rel,dd⟩:=rh I.hok e
    refine wpAny_in_heap (tupleKind_room_in1 hu) (iC I.hok eb) hd dd ?_
    have q:=(rel.val k).isSome_eq
    rw[Option.isSome_map] at q
    rw[<- q,<- l]
    exact h _ (I.tok _)
theorem vi {Q:Value->Shared->Prop} (hu:A.units+1 < cLine) (I:Inv X pins σ H s) (g:DGet H a y o) (ry:RelV y u) (h:∀ s',Inv X pins σ H s'->Q (.bool (!o.isSome)) s') :
    wpAny (model X.prog X.w) A (compareOp .NotIn u (.ref a)) Q E s:=by
  rcases g with ⟨kvs,k,e,ey,l⟩ | ⟨kvs,k,b,e,ey,eb,l⟩
  · subst ey
    obtain⟨z,hd,vs,rel,dd⟩:=pj I.hok e
    refine wpAny_notIn_of (jq ry) hd dd.mapOf ?_
    rw[<- (rel.val k).isSome_eq,<- l]
    exact h _ (I.tok _)
  · subst ey
    cases (show u=Value.ref b from ry)
    obtain⟨z,hd,xs,rel,dd⟩:=rh I.hok e
    refine wpAny_notIn_heap (tupleKind_room_in1 hu) (iC I.hok eb) hd dd ?_
    have q:=(rel.val k).isSome_eq
    rw[Option.isSome_map] at q
    rw[<- q,<- l]
    exact h _ (I.tok _)
theorem pB {h':Heap} {t':Nat} {ob:HO} (I:Inv X pins σ H s) (mu:Mut (H a)) (hs:Heap.SameBut a s.heap h') (he:∃ q,h'.get? a=some q) (new:ObjOk X.prog X.w (upd H a ob) h' a ob) :
    Inv X pins σ (upd H a ob) { s with heap:=h',toks:=t' }:=
  I.write (x:=a) (e:=a) mu (.inl rfl) (fun b q hb z=>(hs.2 b hb).trans z) he new
theorem xh {P:Program} {w:World} {H':Hp} {h':Heap} {kvs:List (Key × V)} {vs:List (Key × Value)} (z:kvs.length <= sizeLine) (hd:(a == sysModules)=false) (rel:KV kvs vs) (dd:h'.DictOf (aU P w) a vs) :
    ObjOk P w H' h' a (.dK kvs):=⟨z,hd,vs,rel,dd⟩
end
section
variable {X:Cx} {pins:List (Addr × Obj)} {σ:St} {H:Hp} {s:Shared} {a:Addr} {kvs:List (Key × V)} {k:Key} {u:Value} {A:Around} {E:Value->Shared->Prop}
end
def xv (i:Expr):Prop:=∀ ov iv,subscripted i false ov iv=operate [ov,iv] (getItem ov iv)
theorem mU {prog:Program} {w:World} {A:Around} {E:Value->Shared->Prop} {s:Shared} {env:Env} {value slice:Expr} {pos:Pos} {T id:String} {Q:Value->Shared->Prop}
    (hl:typeLookup (.type T) "__getitem__" = pure (some (.builtin id))) (hs:xv slice)
    (h:wpAny (model prog w) A (eval value env) (fun o s₁=>wpAny (model prog w) A (eval slice env) (fun i s₂=>s₂.TypeIs o T/\wpAny (model prog w) A (getItem o i) Q E s₂) E s₁) E s) :
    wpAny (model prog w) A (eval (.Subscript value slice pos) env) Q E s:=by
  refine Subscript_ (wpAny_mono h (fun o s₁ h₁=>wpAny_mono h₁ (fun i s₂ h₂=>?_) fun _ _ x=>x) fun _ _ x=>x)
  obtain⟨hT,h₂⟩:=h₂
  unfold subscriptTail
  refine wpAny_bind ?_
  rw[getitemInPython_of_ne hT.not_modules]
  refine wpAny_bind (wpAny_specialOf hT hl ?_)
  have fin:wpAny (model prog w) A (subscripted slice false o i) (fun r s₃=>wpAny (model prog w) A (letTemporaryGo value o r >>= fun _=>pure r) Q E s₃) E s₂:=by
    rw[hs o i]
    exact wpAny_operating (wpAny_mono h₂ (fun r s₃ h₃=>wpAny_bind (wpAny_letTemporaryGo (wpAny_pure h₃))) fun _ _ x=>x)
  first
    | exact wpAny_pure (wpAny_bind fin)
    | exact wpAny_bind (wpAny_pure (wpAny_bind fin))
    | exact wpAny_bind fin
theorem jx {X:Cx} {pins:List (Addr × Obj)} {σ:St} {H:Hp} {s:Shared} {a:Addr} {y:V} {o:Option V} (I:Inv X pins σ H s) (g:DGet H a y o):s.TypeIs (.ref a) "dict":=by
  rcases g with ⟨kvs,k,e,_,_⟩ | ⟨kvs,k,b,e,_,_,_⟩
  · obtain⟨_,_,vs,_,dd⟩:=pj I.hok e
    exact dd.typeIs
  · obtain⟨_,_,xs,_,dd⟩:=rh I.hok e
    exact dd.typeIs
def vI (td ty:TE):TE:=fun σ H Q=>td σ H fun x H1=>ty σ H1 fun y H2=>∃ a v,x=.ref a/\DGet H2 a y (some v)/\Q v H2
section
variable {X:Cx} {o i e value:Expr} {pos pos' tpos:Pos} {td ty tv:TE}
theorem ud (hu:X.A.units+1 < cLine) (ho:PE X o td) (hi:PE X i ty) (hs:xv i):PE X (.Subscript o i pos) (vI td ty):=by
  intro pins s σ H Q I h
  refine mU PySem.F.slot_dict_getitem.lookup hs (thn (ho pins s σ H _ I h) fun u s1 ⟨x,H1,I1,rx,q1⟩=>thn (hi pins s1 σ H1 _ I1 q1) fun iv s2 ⟨y,H2,I2,ry,a,v,ex,g,q2⟩=>?_)
  subst ex
  obtain rfl:u=Value.ref a:=rx
  exact⟨jx I2 g,pC hu I2 g ry fun w' s3 I3 rw'=>⟨v,H2,I3,rw',q2⟩⟩
end
theorem rq {P:Program} {w:World} {H:Hp} (h:Heap) (hb:sysModules < h.objs.size):ObjOk P w H (h.push { cls:=.type "dict",data:=.dict #[] }) h.objs.size (.dK []):=
  ⟨Nat.zero_le _,beq_eq_false_iff_ne.mpr (Ne.symm (Nat.ne_of_lt hb)),[],.nil,Heap.DictOf.new h⟩
section
variable {X:Cx} {pos:Pos}
end
def mS:List (TE × TE)->St->Hp->(List (V × V)->Hp->Prop)->Prop
  | [],_,H,Q=>Q [] H
  | (tk,tv)::r,σ,H,Q=>tk σ H fun x H1=>tv σ H1 fun y H2=>mS r σ H2 fun ps H3=>Q ((x,y)::ps) H3
abbrev VV:List (V × V)->List (Value × Value)->Prop:=Paired fun p q=>RelV p.1 q.1/\RelV p.2 q.2
def PPs (X:Cx) (pos:Pos) (keys:List (Option Expr)) (values:List Expr) (trs:List (TE × TE)):Prop:=
  ∀ (pins:List (Addr × Obj)) (s:Shared) (σ:St) (H:Hp) (Q:List (V × V)->Hp->Prop),Inv X pins σ H s->mS trs σ H Q ->
    wpAny (model X.prog X.w) X.A (evalPairs (pairTrees keys values X.env pos)) (fun vs s'=>∃ ps H',Inv X pins σ H' s'/\VV ps vs/\Q ps H') X.xe s
theorem nR {X:Cx} {pos:Pos}:PPs X pos [] [] []:=fun pins s σ H Q I h=>pairTrees_nil_walk ⟨[],H,I,.nil,h⟩
theorem qp {X:Cx} {pos:Pos} {k v:Expr} {ks:List (Option Expr)} {vs:List Expr} {tk tv:TE} {trs:List (TE × TE)} (hk:PE X k tk) (hv:PE X v tv) (hr:PPs X pos ks vs trs) :
    PPs X pos (some k::ks) (v::vs) ((tk,tv)::trs):=fun pins s σ H Q I h=>
  pairTrees_cons_walk (thn (hk pins s σ H _ I h) fun u s1 ⟨x,H1,I1,rx,q1⟩=>thn (hv pins s1 σ H1 _ I1 q1) fun w2 s2 ⟨y,H2,I2,ry,q2⟩=>
    thn (hr pins s2 σ H2 _ I2 q2) fun ws s3 ⟨ps,H3,I3,rel,q3⟩=>⟨(x,y)::ps,H3,I3,.cons ⟨rx,ry⟩ rel,q3⟩)
noncomputable def bx (kvs more:List (Key × V)):List (Key × V):=more.foldl (fun acc kv=>mD acc kv.1 kv.2) kvs
theorem KV.merge:∀ {more:List (Key × V)} {rs:List (Key × Value)} {kvs:List (Key × V)} {vs:List (Key × Value)},KV more rs->KV kvs vs->KV (bx kvs more) (merged vs rs):=by
  intro more rs kvs vs r
  unfold KV at r
  induction r generalizing kvs vs with
  | nil=>intro q;exact q
  | @cons p q ps qs h t ih=>
    intro r0
    have e:KV (mD kvs p.1 p.2) (stored vs q.1 q.2):=by
      have:=r0.put p.1 h.2
      rw[<- h.1];exact this
    exact ih e
theorem cV:∀ (more kvs:List (Key × V)),(bx kvs more).length <= kvs.length+more.length
  | [],kvs=>by show kvs.length <= kvs.length+0;omega
  | p::r,kvs=>by
    have h1:=cV r (mD kvs p.1 p.2)
    have h2:=jm kvs p.1 p.2
    show (bx (mD kvs p.1 p.2) r).length <= _
    rw[List.length_cons];omega
theorem gh {P:Program} {w:World}:∀ {kvs:List (Key × V)} {ws:List (Value × Value)},VV (kvs.map fun kv=>(kV kv.1,kv.2)) ws->∃ rs,Carries (aU P w) ws rs/\KV kvs rs
  | [],_,r=>by rw[List.map_nil] at r;cases r;exact⟨[],True.intro,.nil⟩
  | p::kvs,_,r=>by
    rw[List.map_cons] at r
    cases r with
    | @cons a b as bs h t=>
      obtain⟨rs,c,q⟩:=gh (P:=P) (w:=w) t
      obtain⟨b1,b2⟩:=b
      exact⟨(p.1,b2)::rs,⟨jq h.1,rfl,c⟩,.cons ⟨rfl,h.2⟩ q⟩
def vF (trs:List (TE × TE)):TE:=fun σ H Q=>∀ p,H p=none->mS trs σ (upd H p (.dK [])) fun ps H2=>H2 p=some (.dK [])/\∃ kvs:List (Key × V),ps=kvs.map (fun kv=>(kV kv.1,kv.2))/\kvs.length <= 15/\Q (.ref p) (upd H2 p (.dK (bx [] kvs)))
theorem uc {X:Cx} {pos:Pos} {keys:List (Option Expr)} {values:List Expr} {trs:List (TE × TE)} (h:PPs X pos keys values trs) (hall:keys.all (·.isSome)=true) (hl:keys.length=values.length) (h0:keys ≠ [])
    (h15:keys.length <= 15):PE X (.Dict keys values pos) (vF trs):=by
  intro pins s σ H Q I q
  have hn:=I.hok.fresh (Nat.le_refl s.heap.objs.size)
  have I1:=I.laid (a:=s.heap.objs.size) (o:=.dK []) (h':=s.heap.push { cls:=.type "dict",data:=.dict #[] }) (t':=s.toks) (fun _ _ q=>Heap.get?_push_of_some _ q) (Nat.le_refl _) (rq s.heap I.big)
  refine wpAny_Dict_walk (knd:=aU X.prog X.w) hall hl h0 h15 (thn (h pins _ σ _ _ I1 (q _ hn)) fun ws s2 ⟨ps,H2,I2,rel,e,kvs,ep,lk,q2⟩=>?_)
  subst ep
  obtain⟨rs,c,rk⟩:=gh (P:=X.prog) (w:=X.w) rel
  obtain⟨z,hd,vs0,r0,dd⟩:=yd I2.hok e
  cases r0
  refine⟨rs,c,dd,fun h' dd' hs=>⟨.ref s.heap.objs.size,_,?_,rfl,q2⟩⟩
  have hz:(bx [] kvs).length <= sizeLine:=by
    have h1:=cV kvs []
    rw[List.length_nil] at h1
    rw[sizeLine_eq];omega
  have he:∃ q,h'.get? s.heap.objs.size=some q:=let ⟨q,_,_,hq,_⟩:=dd';⟨q,hq⟩
  exact pB I2 (by rw[e];exact True.intro) hs he (xh hz hd (rk.merge .nil) dd')
section
variable {X:Cx} {pins:List (Addr × Obj)} {σ:St} {H:Hp} {s:Shared} {a:Addr} {y d:V} {u r:Value} {o:Option V} {A:Around} {E:Value->Shared->Prop}
end
section
variable {X:Cx} {o e f:Expr} {apos cpos:Pos} {td ty tx:TE}
end
section
variable {X:Cx} {pins:List (Addr × Obj)} {σ:St} {H:Hp} {s:Shared} {a:Addr} {kvs:List (Key × V)} {A:Around} {E:Value->Shared->Prop}
end
section
variable {X:Cx} {pins:List (Addr × Obj)} {σ:St} {H:Hp} {s:Shared} {a:Addr} {y:V} {u:Value} {A:Around} {E:Value->Shared->Prop}
end
end L2
namespace L2
open PySem PySem.Spec PyProof.Rows
section
variable {X:Cx}
end
section
variable {κ:Type} [DecidableEq κ]
end
end L2
namespace L2
open PySem PySem.Spec PyProof.Rows
section
variable {X:Cx}
end
end L2
namespace L2
open PySem PySem.Spec PyProof.Rows
section
variable {X:Cx} {tg:Expr}
end
end L2
namespace L2
open PySem PySem.Spec PySem.Calls PyProof.Rows Builtin Builtin.Str
section
variable {X:Cx}
end
end L2
namespace L2
open PySem PySem.Spec PySem.Calls PyProof.Rows Builtin Builtin.Tuple
section
variable {X:Cx}
end
end L2
namespace L2
open PySem PySem.Spec PyProof.Rows
section
variable {X:Cx} {pins:List (Addr × Obj)} {σ:St} {H:Hp} {s:Shared} {h':Heap}
theorem Inv.turnedT {t':Nat} {wr:List Addr} {T:Addr} {vs:List V} {its:List Value} (I:Inv X pins σ H s) (k:∀ b o,b ∉ wr->s.heap.get? b=some o->h'.get? b=some o) (hf:∀ b ∈ wr,mE X pins H b)
    (hT:s.heap.objs.size <= T) (hz:vs.length <= sizeLine) (hv:Vals vs its) (ht:IsTup h' T its.toArray) (hnd:TpN vs h' T):Inv X pins σ (upd H T (.tup vs)) { s with heap:=h',toks:=t' }:=by
  have hn:H T=none:=I.hok.fresh hT
  have nw:∀ b u,H b=some u->b ∉ wr:=fun b u e z=>by
    have:=(hf b z).1
    rw[this] at e
    cases e
  have nT:∀ b o,s.heap.get? b=some o->b ≠ T:=fun b o e z=>by
    subst z
    exact absurd (Nat.lt_of_lt_of_le (Heap.lt_size e) hT) (Nat.lt_irrefl _)
  refine I.step (H':=upd H T (.tup vs)) (g':=s.gens) (d':=s.drawn) (ch:=wr) (fun b hb=>?_) (fun b o _ _ hc e _=>k b o hc e) (fun b o _ _ hc e _=>⟨o.slots,k b o hc e⟩) (fun b o _ e n=>by rw[av (nT b o e)];exact n)
    (fun b o hc e=>⟨o,k b o hc e⟩) (fun b xs e=>by rw[av (aG e hn)];exact e) (fun b o u e=>by rw[av (aG e hn)];exact e) (fun b ps e=>⟨#[],by rw[av (aG e hn),e];simp⟩) (fun m hm=>?_) (fun b u e=>?_) I.bare
  · obtain⟨f0,f1,f2,f3,f4,f5⟩:=hf b hb
    exact⟨f3,f1,f4,f5⟩
  · obtain⟨o,es,ep,ho,r⟩:=hm
    exact⟨o,es,ep,k _ o (fun z=>(hf _ z).2.1 rfl) ho,r⟩
  · by_cases hb:b=T
    · subst hb
      rw[aa] at e
      cases e
      exact⟨⟨hz,hnd⟩,its,hv,ht⟩
    · rw[av hb] at e
      refine (I.hok b u e).stay (fun c v hc q=>k c v ?_ q) (fun c q=>by rw[av (aG q hn)];exact q) fun c xs q=>by rw[av (aG q hn)];exact q
      rcases hc with z | z
      · rw[z];exact nw b u e
      · exact nw c _ z
theorem Inv.turnedL {t':Nat} {wr:List Addr} (I:Inv X pins σ H s) (k:∀ b o,b ∉ wr->s.heap.get? b=some o->h'.get? b=some o) (hf:∀ b ∈ wr,mE X pins H b):Inv X pins σ H { s with heap:=h',toks:=t' }:=by
  have nw:∀ b u,H b=some u->b ∉ wr:=fun b u e z=>by
    have:=(hf b z).1
    rw[this] at e
    cases e
  refine I.step (g':=s.gens) (d':=s.drawn) (ch:=wr) (fun b hb=>?_) (fun b o _ _ hc e _=>k b o hc e) (fun b o _ _ hc e _=>⟨o.slots,k b o hc e⟩) (fun _ _ _ _ n=>n)
    (fun b o hc e=>⟨o,k b o hc e⟩) (fun _ _ e=>e) (fun _ _ _ e=>e) (fun b ps e=>⟨#[],by rw[e];simp⟩) (fun m hm=>?_) (fun b u e=>?_) I.bare
  · obtain⟨f0,f1,f2,f3,f4,f5⟩:=hf b hb
    exact⟨f3,f1,f4,f5⟩
  · obtain⟨o,es,ep,ho,r⟩:=hm
    exact⟨o,es,ep,k _ o (fun z=>(hf _ z).2.1 rfl) ho,r⟩
  · refine (I.hok b u e).stay (fun c v hc q=>k c v ?_ q) (fun _ q=>q) fun _ _ q=>q
    rcases hc with z | z
    · rw[z];exact nw b u e
    · exact nw c _ z
end
def ItW (n:Nat) (G:Hp->Prop) (R:Nat->List V->Prop):It:=
  ⟨fun i H=>i < n/\G H,fun i H x H'=>∃ T vs,x=.ref T/\H T=none/\R i vs/\H'=upd H T (.tup vs),fun i H=>i=n/\G H⟩
theorem sf {n:Nat} {G:Hp->Prop} {R:Nat->List V->Prop} {g:TG} {tb:TS} {D:hX} {σ:St} {H:Hp} (Pv:Nat->St->Hp->Prop) (h0:Pv 0 σ H) (hg:∀ i σ H,i <= n->Pv i σ H->G H)
    (hs:∀ i T vs σ H,i < n->R i vs->Pv i σ H->H T=none->g (.ref T) σ (upd H T (.tup vs)) fun σ2 H2=>tb { D with nx:=Pv (i+1),ct:=Pv (i+1),bk:=D.nx } σ2 H2) (hd:∀ σ H,Pv n σ H->D.nx σ H) :
    ∃ W:Nat->Nat->St->Hp->Prop,(∃ m,W 0 m σ H)/\∀ i m σ H,W i m σ H ->
      ((ItW n G R).stop i H/\D.nx σ H)\/((ItW n G R).go i H/\∃ N:St->Hp->Prop,(∀ σ' H',N σ' H'->∃ m',m' < m/\W (i+1) m' σ' H')/\∀ x H',(ItW n G R).yld i H x H'->g x σ H' fun σ2 H2=>tb { D with nx:=N,ct:=N,bk:=D.nx } σ2 H2):=by
  refine⟨fun i m σ H=>m=n - i/\i <= n/\Pv i σ H,⟨n,by simp,Nat.zero_le _,h0⟩,?_⟩
  rintro i m σ H ⟨rfl,hi,p⟩
  have q:=hg i σ H hi p
  by_cases hlt:i < n
  · refine .inr ⟨⟨hlt,q⟩,Pv (i+1),fun σ' H' p'=>⟨n - (i+1),by omega,rfl,hlt,p'⟩,fun x H' y=>?_⟩
    obtain⟨T,vs,rfl,hT,r,rfl⟩:=y
    exact hs i T vs σ H hlt r p hT
  · have e:i=n:=by omega
    subst e
    exact .inl ⟨⟨rfl,q⟩,hd σ H p⟩
section
variable {X:Cx} {elts:List Expr} {k:Nat} {tpos:Pos}
end
end L2
namespace L2
open PySem PySem.Spec PyProof.Rows
theorem tW {X:Cx} {elt iter:Expr} {ifs:List Expr} {sc:Scope} {pos px py spos:Pos} {t y:Str} {ys:List Str} {js:List Nat} {wi:TI} {tc:TT} {te:TE} {g:TG} (hc:X.calm=true) (hck:compChk X.N X.env.scope sc t ys js=true)
    (hi:PI X (.Name t px) iter wi) (hf:∀ cl C s H fp,PIf (X.comp sc cl C (t::ys) s H fp) ifs tc) (he:∀ cl C s H fp,PE (X.comp sc cl C (t::ys) s H fp) elt te) (hg:PG X (.Name y py) g)
    (hsw:swapsWith (.ListComp elt [⟨.Name t px,iter,ifs,0⟩] sc pos) (some (.Name y py)) spos.line X.env=pure true) (hs:∀ x,foldedSetIterable iter X.env x=pure x:=by intro _;rfl) :
    PS X (.Assign [.Name y py] (.ListComp elt [⟨.Name t px,iter,ifs,0⟩] sc pos) spos) (tAsg (tComp wi js tc te) g):=by
  have ck:=iL hck
  intro pins s σ H D0 I h
  have hfr:∀ x,(x,NameKind.free) ∈ sc.names->∃ c,X.env.cells.lookup x=some c:=fun x hx=>I.ok.has x (.inl (ck.fre _ hx rfl))
  obtain⟨cl,hcl,cl1,cl2⟩:=jy hfr
  rw[exec_Assign_Name_used _ _ _ _ hsw]
  refine wpAny_bind (wpAny_standAt (wpAny_bind ?_))
  show wpAny _ X.A (do let _ <- comprehension (.ListComp elt [⟨.Name t px,iter,ifs,0⟩] sc pos) sc X.env _ (newList []) false (eval iter X.env) (some (assign (.Name y py) X.env))) _ _ s
  refine wpAny_bind (wpAny_mono (wpAny_comprehension_free (use:=some (assign (.Name y py) X.env)) (Q:=fun _ s'=>SP X pins D0 .next s') rfl hs hcl ck.kind ck.loc (thn (hi pins s σ H _ I h) fun v s1 h1=>thn h1 fun itv s2 h2=>?_)) (fun _ s' hq=>wpAny_pure (wpAny_pure hq)) fun _ _ e=>e)
  obtain⟨it,fp,tn,J,H2,e,I2,T,st2,f2,hR⟩:=h2
  subst e
  refine wpAny_newObj_type (wpAny_newFunctionEnv ck.ncell (by intro y hy;simp at hy) (fun h1 hns hsb=>?_) ck.kind)
  dsimp only at hns hsb ⊢
  generalize hp:s2.heap.push { cls:=.type "list",dict:=none,data:=.seq ([]:List Value).toArray }=hh at hns hsb ⊢
  have hC:hh.objs.size=s2.heap.objs.size+1:=by rw[<- hp,Heap.size_push]
  have neD:∀ {b:Addr},b < s2.heap.objs.size->b ≠ s2.heap.objs.size:=fun hb=>Nat.ne_of_lt hb
  have neC:∀ {b:Addr},b < s2.heap.objs.size->b ≠ hh.objs.size:=fun hb=>by rw[hC];exact Nat.ne_of_lt (Nat.lt_succ_of_lt hb)
  have hDC:s2.heap.objs.size ≠ hh.objs.size:=by rw[hC];exact Nat.ne_of_lt (Nat.lt_succ_self _)
  have hCle:s2.heap.objs.size <= hh.objs.size:=by rw[hC];exact Nat.le_succ _
  have old:∀ b o,s2.heap.get? b=some o->h1.get? b=some o:=fun b o e=>hsb.extBut b o (neC (Heap.lt_size e)) (Heap.get?_push_of_some _ (hp ▸ Heap.get?_push_of_some _ e))
  have hnew:h1.get? s2.heap.objs.size=some { cls:=.type "list",dict:=none,data:=.seq ([]:List Value).toArray }:=hsb.extBut _ _ hDC (Heap.get?_push_of_some _ (hp ▸ Heap.get?_push_size _ rfl))
  have fpH:∀ b ∈ fp,∃ o,s2.heap.get? b=some o:=fun b hb=>let ⟨o,e,_⟩:=T.obj 0 _ st2 b hb;⟨o,e⟩
  have fpD:∀ b ∈ fp,b ≠ s2.heap.objs.size:=fun b hb=>by obtain⟨o,e⟩:=fpH b hb;exact neD (Heap.lt_size e)
  have fpC:∀ b ∈ fp,b ≠ hh.objs.size:=fun b hb=>by obtain⟨o,e⟩:=fpH b hb;exact neC (Heap.lt_size e)
  have fpS:∀ b ∈ fp,b ∉ frs X.stack:=fun b hb z=>(List.mem_cons.mp (I2.stkSub b z)).elim (f2 b hb).2.1 (f2 b hb).2.2.1
  have hok':(X.comp sc cl hh.objs.size (t::ys) s2 H2 fp).Ok:=by
    refine⟨I2.ok.mod,ck.kind,I2.ok.glob,I2.ok.blt,hCle,fun x y c a b=>I2.ok.inj x y c (cl1 x c a) (cl1 y c b),fun x hx=>?_,(fun x c z=>nomatch z),I2.ok.hd,I2.ok.frames,.inl rfl,fun b hb=>⟨fpC b hb,fun x c a=>(f2 b hb).2.2.2.2.1 x c (cl1 x c a)⟩,
      I2.bs,Nat.le_trans I2.ok.bsz I2.sz,fun b o e hb=>?_,fun b hb=>fpS b hb,I2.stack,I2.stkFree⟩
    · have hx':(sc.names.map fun (n,k)=>if (k == NameKind.free && X.env.scope.kind == .function && X.env.kindOf n == some .cell) then (n,NameKind.cell) else (n,k)).lookup x=some .cell\/(sc.names.map fun (n,k)=>if (k == NameKind.free && X.env.scope.kind == .function && X.env.kindOf n == some .cell) then (n,NameKind.cell) else (n,k)).lookup x=some .free:=hx
      rcases hx' with z | z
      · rcases bK z with q | ⟨_,q⟩
        · exact absurd rfl (ck.ncell _ (PySem.mem_of_lookup q))
        · exact cl2 x (PySem.mem_of_lookup q)
      · rcases bK z with q | ⟨q,_⟩
        · exact cl2 x (PySem.mem_of_lookup q)
        · cases q
    · rcases (f2 b hb).2.2.2.1 with z | z
      · exact I2.ok.noex b o e z
      · exact absurd (Nat.lt_of_lt_of_le (Heap.lt_size e) (Nat.le_trans I2.ok.bsz z)) (Nat.lt_irrefl _)
  have Iin:∀ tk:Nat,Inv (X.comp sc cl hh.objs.size (t::ys) s2 H2 fp) [] (none::bh js σ) (upd H2 s2.heap.objs.size (.lst [])) { s2 with heap:=h1,toks:=tk }:=fun tk=>by
    refine⟨hok',rfl,I2.bare,Un.laid old (Nat.le_refl _) I2.fresh,⟨_,hns,fun i x v e1 e2 e3=>?_⟩,fun x c e=>?_,?_,fun x c e=>?_,fun p hp=>absurd (show p ∈ ([]:List (Addr × Obj)) from hp) (by simp),I2.hok.laid old (Nat.le_refl _) ⟨Nat.zero_le _,[],0,.nil,hnew⟩,?_⟩
    · cases i with
      | zero=>simp at e2
      | succ k=>
        have e1':ys[k]?=some x:=e1
        have e2':(bh js σ)[k]?=some (some v):=by simpa using e2
        unfold bh at e2'
        rw[List.getElem?_map] at e2'
        have q:=congrArg (fun l=>l[k]?) ck.ysj
        simp only[List.getElem?_map,e1',Option.map_some] at q
        cases hj:js[k]? with
        | none=>rw[hj] at q;cases q
        | some j=>
          rw[hj] at q e2'
          have q1:X.N[j]?=some x:=(Option.some.inj q).symm
          have q2:σ[j]?=some (some v):=by
            have z:(σ[j]?).join=some v:=Option.some.inj e2'
            cases hz:σ[j]? with
            | none=>rw[hz] at z;cases z
            | some y=>rw[hz] at z;exact congrArg some z
          have hf':=ck.ysf x (List.mem_of_getElem? e1')
          have hcell:=ck.fre _ (PySem.mem_of_lookup hf') rfl
          obtain⟨m2,hn2,hl2⟩:=I2.loc
          obtain⟨u,ru,lk⟩:=hl2 j x v q1 q2 (.inr (.inl hcell))
          refine⟨u,ru,?_⟩
          rcases lk with ⟨kk,_⟩ | ⟨_,c,ec,ic⟩
          · have kk':X.env.scope.names.lookup x=some .local:=kk
            have hcell':X.env.scope.names.lookup x=some .cell:=hcell
            rw[hcell'] at kk';cases kk'
          · obtain⟨c',ec'⟩:=cl2 x (PySem.mem_of_lookup hf')
            have:c'=c:=Option.some.inj ((cl1 x c' ec').symm.trans ec)
            subst this
            refine .inr ⟨cD hf',c',ec',?_⟩
            obtain⟨o,ho,hd⟩:=ic
            exact⟨o,old _ o ho,hd⟩
    · obtain⟨v,o,ho,hd⟩:=I2.cell x c (cl1 x c e)
      exact⟨v,o,old _ o ho,hd⟩
    · show upd H2 s2.heap.objs.size _ hh.objs.size=none
      rw[av (Ne.symm hDC)]
      exact I2.hok.fresh hCle
    · obtain⟨v,o,ho,hd⟩:=I2.cell x c (cl1 x c e)
      rw[av (neD (Heap.lt_size ho))]
      exact I2.freeC x c (cl1 x c e)
    · show (none::bh js σ).length=(t::ys).length
      have q:=congrArg List.length ck.ysj
      simp only[List.length_map] at q
      unfold bh
      simp only[List.length_cons,List.length_map]
      omega
  have st1:tn 0 h1:=T.keep _ _ _ st2 fun b hb o e=>old b o e
  obtain⟨W,⟨m0,w0⟩,turn⟩:=hR s2.heap.objs.size I2.fresh
  have fpok:∀ {H':Hp},(∀ b ∈ fp,H' b=none)->∀ b ∈ fp,mE (X.comp sc cl hh.objs.size (t::ys) s2 H2 fp) [] H' b:=fun hn b hb=>
    ⟨hn b hb,fpC b hb,fpS b hb,.inl hb,fun x c a=>(f2 b hb).2.2.2.2.1 x c (cl1 x c a),fun p hp=>absurd (show p ∈ ([]:List (Addr × Obj)) from hp) (by simp)⟩
  have ndN:(t::ys).Nodup:=ck.nd
  have loop:∀ s3:Shared,s3={ s2 with heap:=h1,toks:=s2.toks+([]:List (Str × Value)).length } ->
      codeAny (model X.prog X.w) X.A (.compLoop (.ListComp elt [⟨.Name t px,iter,ifs,0⟩] sc pos) 0 (.ref it) (.ref s2.heap.objs.size) (compEnvC sc cl hh.objs.size X.env))
        (compPost (model X.prog X.w) X.A X.xe (some (assign (.Name y py) X.env)) (fun _ s'=>SP X pins D0 .next s') (.ref s2.heap.objs.size) hh.objs.size) s3:=by
    rintro s3 rfl
    refine eG (fun n s'=>∃ i acc H',Inv (X.comp sc cl hh.objs.size (t::ys) s2 H2 fp) [] (none::bh js σ) H' s'/\tn i s'.heap/\(∀ b ∈ fp,H' b=none)/\W i n acc H') ?_ m0
      ⟨0,[],_,Iin _,st1,fun b hb=>by rw[av (fpD b hb)];exact (f2 b hb).1,w0⟩
    rintro n s3 ⟨i,acc,H3,I3,st3,fr3,w3⟩
    obtain⟨hD,hz,alt⟩:=turn i n acc H3 w3
    rcases alt with ⟨stop,q⟩ | ⟨go,step⟩
    · refine thn (T.done (X.comp sc cl hh.objs.size (t::ys) s2 H2 fp) rfl rfl rfl hc i [] s3 _ H3 _ I3 (fpok fr3) st3 stop) fun r s4 ⟨hr,I4⟩=>?_
      subst hr
      obtain⟨m,hn,_⟩:=id I4.loc
      have ltC:∀ b o,s2.heap.get? b=some o->b ≠ hh.objs.size:=fun b o e=>neC (Heap.lt_size e)
      have b4:Un (frs X.stack) fp H2 H3 s2.heap s4.heap:=I4.base
      have I5:Inv X pins σ H3 s4:=I2.call' (s':=s4) (ch:=fp) I4.os ⟨fun b o e n1 n2 n3=>b4.keep b o e n1 n2 n3,fun b o e n1 n2 n3=>b4.slot b o e n1 n2 n3,b4.free,fun b o e n1=>b4.there b o e n1,b4.tups,b4.frzs,b4.tbls⟩ (fun b ob e=>I4.hok b ob e) I4.bare
        (fun b hb=>⟨(f2 b hb).2.2.2.1,(f2 b hb).2.1,(f2 b hb).2.2.2.2.1,(f2 b hb).2.2.2.2.2⟩)
      have fC:mE X pins H3 hh.objs.size:=I2.fpOk hCle I4.free
      obtain⟨oC,es,ep,hoC,dC,rC⟩:=id hn
      have I6:Inv X (pins++[(hh.objs.size,oC)]) σ H3 s4:=I5.pins_of fun p hp=>(List.mem_append.mp hp).elim (fun z=>I5.pin p (List.mem_append_right _ z)) fun z=>by
        rw[List.mem_singleton.mp z]
        exact⟨hoC,fC.1,fC.2.1,fC.2.2.1,fun v z=>by rw[dC] at z;cases z⟩
      show wpAny _ X.A (assign (.Name y py) X.env (.ref s2.heap.objs.size)) _ _ s4
      refine thn (hg _ s4 σ H3 (.ref s2.heap.objs.size) _ _ I6 rfl q) fun _ s7 ⟨σ7,H7,I7,q7⟩=>?_
      obtain⟨p1,p2,p3,p4,p5⟩:=I7.pin (hh.objs.size,oC) (List.mem_append_right _ (List.mem_append_right _ (List.mem_singleton.mpr rfl)))
      refine⟨m,⟨oC,es,ep,p1,dC,rC⟩,fun h' sb=>⟨σ7,H7,?_,q7⟩⟩
      exact I7.unpinned.turned (t':=s7.toks) (fun b o hb e=>(sb.2 b hb).trans e) p2 p3 fC.2.2.2.1 fC.2.2.2.2.1 fC.2.2.2.2.2
    · refine thn (T.item (X.comp sc cl hh.objs.size (t::ys) s2 H2 fp) rfl rfl rfl hc i [] s3 _ H3 _ I3 (fpok fr3) st3 go) fun r s4 ⟨u,hr,h4⟩=>?_
      subst hr
      refine thn h4 fun _ s5 ⟨x,H5,I5,r5,y5,st5,fr5⟩=>?_
      have I5':=I5.pinned (fpok fr5) (T.obj _ _ st5)
      refine wpAny_assign_Name (dR (i:=0) I5' ndN rfl (.inl (lookup_relabel_local ck.tl)) r5 (fun s6 I6=>?_) (.inr (lookup_relabel_local ck.tl)))
      have again:∀ {H7:Hp} {s7:Shared} {m':Nat} {acc':List V},Inv (X.comp sc cl hh.objs.size (t::ys) s2 H2 fp) ([]++eX fp s5.heap) (some x::bh js σ) H7 s7->m' < n->W (i+1) m' acc' H7 ->
          ∃ m,m < n/\∃ i acc H',Inv (X.comp sc cl hh.objs.size (t::ys) s2 H2 fp) [] (none::bh js σ) H' s7/\tn i s7.heap/\(∀ b ∈ fp,H' b=none)/\W i m acc H':=fun {H7 s7 m' acc'} I7 hm w7=>by
        refine⟨m',hm,i+1,acc',H7,(I7.unpinned).weak rfl (fun k v e=>?_),T.keep _ _ _ st5 fun b hb o e=>(I7.pin (b,o) (List.mem_append_right _ (List.mem_append_right _ (bN hb e)))).1,fun b hb=>?_,w7⟩
        · cases k with
          | zero=>simp at e
          | succ k=>simpa using e
        · obtain⟨o,e,d⟩:=T.obj _ _ st5 b hb
          exact (I7.pin (b,o) (List.mem_append_right _ (List.mem_append_right _ (bN hb e)))).2.1
      refine thn (hf _ _ _ _ _ _ s6 _ H5 _ I6 (step x H5 y5)) fun ok s7 ⟨H7,I7,q7⟩=>?_
      cases ok with
      | false=>
        obtain⟨m',hm,w7⟩:=q7
        exact again I7 hm w7
      | true=>
        refine thn (he _ _ _ _ _ _ s7 _ H7 _ I7 q7) fun uy s8 ⟨y,H8,I8,r8,hD8,m',hm,w8⟩=>?_
        refine thn (bg (X:=X.comp sc cl hh.objs.size (t::ys) s2 H2 fp) _ s8 _ H8 (.ref s2.heap.objs.size) [y] (.ref s2.heap.objs.size) [uy] (fun _ H9=>W (i+1) m' (acc++[y]) H9) I8 rfl (.cons r8 .nil) ⟨_,acc,y,rfl,rfl,hD8,hz,w8⟩) fun _ s9 ⟨_,H9,I9,_,q9⟩=>?_
        exact again I9 hm q9
  exact codeAny_compStart_list (loop _ rfl) (T.self _ 0 _ _ _ st1 (loop _ rfl))
theorem dL {X:Cx} {elt iter:Expr} {ifs:List Expr} {sc:Scope} {pos px py spos:Pos} {t y:Str} {ys:List Str} {js:List Nat} {wi:TI} {tc:TT} {te:TE} {g:TG} (hc:X.calm=true) (hck:compChk X.N X.env.scope sc t ys js=true)
    (hi:QI X (.Name t px) iter wi) (hf:∀ cl C s H fp,QIf (X.comp sc cl C (t::ys) s H fp) ifs tc) (he:∀ cl C s H fp,QE (X.comp sc cl C (t::ys) s H fp) elt te) (hg:QG X (.Name y py) g)
    (hsw:swapsWith (.ListComp elt [⟨.Name t px,iter,ifs,0⟩] sc pos) (some (.Name y py)) spos.line X.env=pure true) (hs:∀ x,foldedSetIterable iter X.env x=pure x:=by intro _;rfl) :
    QS X (.Assign [.Name y py] (.ListComp elt [⟨.Name t px,iter,ifs,0⟩] sc pos) spos) (tAsg (tComp wi js tc te) g):=⟨tW hc hck hi.h (fun cl C s H fp=>(hf cl C s H fp).h) (fun cl C s H fp=>(he cl C s H fp).h) hg.h hsw hs⟩
end L2
namespace L2
open PySem PySem.Spec PyProof.Rows
noncomputable def eO (N:List Str) (osc sc:Scope) (ts:List Str) (ys:List Str) (js:List Nat):Bool:=
  sc.kind == .function && sc.names.all (fun y=>y.2 != .cell) && sc.names.all (fun y=>y.2 != .local || sc.names.lookup y.1 == some .local) &&
  sc.names.all (fun y=>y.2 != .free || osc.names.lookup y.1 == some .cell) && (ys.map some == js.map fun j=>N[j]?) &&
  ys.all (fun y=>sc.names.lookup y == some .free)
structure vq (N:List Str) (osc sc:Scope) (ys:List Str) (js:List Nat):Prop where
  kind:sc.kind=.function
  ncell:∀ y ∈ sc.names,y.2 ≠ .cell
  loc:∀ y ∈ sc.names,y.2=.local->sc.names.lookup y.1=some .local
  fre:∀ y ∈ sc.names,y.2=.free->osc.names.lookup y.1=some .cell
  ysj:ys.map some=js.map fun j=>N[j]?
  ysf:∀ y ∈ ys,sc.names.lookup y=some .free
theorem mr {N:List Str} {osc sc:Scope} {ts ys:List Str} {js:List Nat} (h:eO N osc sc ts ys js=true):vq N osc sc ys js:=by
  unfold eO at h
  simp only[Bool.and_eq_true,List.all_eq_true,decide_eq_true_eq,Bool.or_eq_true,bne_iff_ne,beq_iff_eq] at h
  obtain⟨⟨⟨⟨⟨a,b⟩,c⟩,d⟩,e⟩,f⟩:=h
  exact⟨a,fun y hy=>b y hy,fun y hy z=>(c y hy).resolve_left fun q=>q z,fun y hy z=>(d y hy).resolve_left fun q=>q z,e,f⟩
def pL (J:It) (g:TG) (n:Nat) (js:List Nat) (tc:TT) (te:TE) (σ:St) (Q:VK) (D:Addr) (H1:Hp):Prop:=∃ W:Nat->Nat->List V->Hp->Prop,(∃ m,W 0 m [] (upd H1 D (.lst []))) /\
  ∀ i m acc H,W i m acc H->H D=some (.lst acc)/\acc.length < sizeLine/\((J.stop i H/\Q (.ref D) H)\/(J.go i H/\∀ x H',J.yld i H x H'->g x (List.replicate n none++bh js σ) H' fun σ6 H6=>∃ us:List (Option V),us.length=n/\σ6=us++bh js σ/\tc σ6 H6 fun c H3=>
    if c=true then te σ6 H3 fun y H4=>H4 D=some (.lst acc)/\∃ m',m' < m/\W (i+1) m' (acc++[y]) (upd H4 D (.lst (acc++[y]))) else ∃ m',m' < m/\W (i+1) m' acc H3))
def rN (wi:TI) (g:TG) (n:Nat) (js:List Nat) (tc:TT) (te:TE):TE:=fun σ H Q=>wi σ H fun J H1=>∀ D,H1 D=none->pL J g n js tc te σ Q D H1
theorem qt {X:Cx} {elt iter tg:Expr} {ifs:List Expr} {sc:Scope} {pos:Pos} {ts:List Str} {ys:List Str} {js:List Nat} {wi:TI} {g:TG} {tc:TT} {te:TE} (hc:X.calm=true) (hck:eO X.N X.env.scope sc ts ys js=true)
    (hi:PI X tg iter wi) (hg:∀ cl C s H fp,PG (X.comp sc cl C (ts++ys) s H fp) tg g) (hf:∀ cl C s H fp,PIf (X.comp sc cl C (ts++ys) s H fp) ifs tc) (he:∀ cl C s H fp,PE (X.comp sc cl C (ts++ys) s H fp) elt te)
    (hs:∀ x,foldedSetIterable iter X.env x=pure x:=by intro _;rfl):PE X (.ListComp elt [⟨tg,iter,ifs,0⟩] sc pos) (rN wi g ts.length js tc te):=by
  have ck:=mr hck
  intro pins s σ H Q I h
  have hfr:∀ x,(x,NameKind.free) ∈ sc.names->∃ c,X.env.cells.lookup x=some c:=fun x hx=>I.ok.has x (.inl (ck.fre _ hx rfl))
  obtain⟨cl,hcl,cl1,cl2⟩:=jy hfr
  rw[eval_ListComp]
  refine wpAny_comprehension_free (use:=none) rfl hs hcl ck.kind ck.loc (thn (hi pins s σ H _ I h) fun v s1 h1=>thn h1 fun itv s2 h2=>?_)
  obtain⟨it,fp,tn,J,H2,e,I2,T,st2,f2,hR⟩:=h2
  subst e
  refine wpAny_newObj_type (wpAny_newFunctionEnv ck.ncell (by intro y hy;simp at hy) (fun h1 hns hsb=>?_) ck.kind)
  dsimp only at hns hsb ⊢
  generalize hp:s2.heap.push { cls:=.type "list",dict:=none,data:=.seq ([]:List Value).toArray }=hh at hns hsb ⊢
  have hC:hh.objs.size=s2.heap.objs.size+1:=by rw[<- hp,Heap.size_push]
  have neD:∀ {b:Addr},b < s2.heap.objs.size->b ≠ s2.heap.objs.size:=fun hb=>Nat.ne_of_lt hb
  have neC:∀ {b:Addr},b < s2.heap.objs.size->b ≠ hh.objs.size:=fun hb=>by rw[hC];exact Nat.ne_of_lt (Nat.lt_succ_of_lt hb)
  have hDC:s2.heap.objs.size ≠ hh.objs.size:=by rw[hC];exact Nat.ne_of_lt (Nat.lt_succ_self _)
  have hCle:s2.heap.objs.size <= hh.objs.size:=by rw[hC];exact Nat.le_succ _
  have old:∀ b o,s2.heap.get? b=some o->h1.get? b=some o:=fun b o e=>hsb.extBut b o (neC (Heap.lt_size e)) (Heap.get?_push_of_some _ (hp ▸ Heap.get?_push_of_some _ e))
  have hnew:h1.get? s2.heap.objs.size=some { cls:=.type "list",dict:=none,data:=.seq ([]:List Value).toArray }:=hsb.extBut _ _ hDC (Heap.get?_push_of_some _ (hp ▸ Heap.get?_push_size _ rfl))
  have fpH:∀ b ∈ fp,∃ o,s2.heap.get? b=some o:=fun b hb=>let ⟨o,e,_⟩:=T.obj 0 _ st2 b hb;⟨o,e⟩
  have fpD:∀ b ∈ fp,b ≠ s2.heap.objs.size:=fun b hb=>by obtain⟨o,e⟩:=fpH b hb;exact neD (Heap.lt_size e)
  have fpC:∀ b ∈ fp,b ≠ hh.objs.size:=fun b hb=>by obtain⟨o,e⟩:=fpH b hb;exact neC (Heap.lt_size e)
  have fpS:∀ b ∈ fp,b ∉ frs X.stack:=fun b hb z=>(List.mem_cons.mp (I2.stkSub b z)).elim (f2 b hb).2.1 (f2 b hb).2.2.1
  have hok':(X.comp sc cl hh.objs.size (ts++ys) s2 H2 fp).Ok:=by
    refine⟨I2.ok.mod,ck.kind,I2.ok.glob,I2.ok.blt,hCle,fun x y c a b=>I2.ok.inj x y c (cl1 x c a) (cl1 y c b),fun x hx=>?_,(fun x c z=>nomatch z),I2.ok.hd,I2.ok.frames,.inl rfl,fun b hb=>⟨fpC b hb,fun x c a=>(f2 b hb).2.2.2.2.1 x c (cl1 x c a)⟩,
      I2.bs,Nat.le_trans I2.ok.bsz I2.sz,fun b o e hb=>?_,fun b hb=>fpS b hb,I2.stack,I2.stkFree⟩
    · have hx':(sc.names.map fun (n,k)=>if (k == NameKind.free && X.env.scope.kind == .function && X.env.kindOf n == some .cell) then (n,NameKind.cell) else (n,k)).lookup x=some .cell\/(sc.names.map fun (n,k)=>if (k == NameKind.free && X.env.scope.kind == .function && X.env.kindOf n == some .cell) then (n,NameKind.cell) else (n,k)).lookup x=some .free:=hx
      rcases hx' with z | z
      · rcases bK z with q | ⟨_,q⟩
        · exact absurd rfl (ck.ncell _ (PySem.mem_of_lookup q))
        · exact cl2 x (PySem.mem_of_lookup q)
      · rcases bK z with q | ⟨q,_⟩
        · exact cl2 x (PySem.mem_of_lookup q)
        · cases q
    · rcases (f2 b hb).2.2.2.1 with z | z
      · exact I2.ok.noex b o e z
      · exact absurd (Nat.lt_of_lt_of_le (Heap.lt_size e) (Nat.le_trans I2.ok.bsz z)) (Nat.lt_irrefl _)
  have Iin:∀ tk:Nat,Inv (X.comp sc cl hh.objs.size (ts++ys) s2 H2 fp) [] (List.replicate ts.length none++bh js σ) (upd H2 s2.heap.objs.size (.lst [])) { s2 with heap:=h1,toks:=tk }:=fun tk=>by
    refine⟨hok',rfl,I2.bare,Un.laid old (Nat.le_refl _) I2.fresh,⟨_,hns,fun i x v e1 e2 e3=>?_⟩,fun x c e=>?_,?_,fun x c e=>?_,fun p hp=>absurd (show p ∈ ([]:List (Addr × Obj)) from hp) (by simp),I2.hok.laid old (Nat.le_refl _) ⟨Nat.zero_le _,[],0,.nil,hnew⟩,?_⟩
    · by_cases hik:i < ts.length
      · rw[List.getElem?_append_left (by rw[List.length_replicate];exact hik),List.getElem?_replicate,if_pos hik] at e2
        cases e2
      · obtain⟨k,rfl⟩ : ∃ k,i=ts.length+k:=⟨i - ts.length,by omega⟩
        have e1':ys[k]?=some x:=by
          have:(ts++ys)[ts.length+k]?=some x:=e1
          rw[List.getElem?_append_right (by omega)] at this
          rw[<- this]
          congr 1
          omega
        have e2':(bh js σ)[k]?=some (some v):=by
          rw[List.getElem?_append_right (by rw[List.length_replicate];omega),List.length_replicate] at e2
          rw[<- e2]
          congr 1
          omega
        unfold bh at e2'
        rw[List.getElem?_map] at e2'
        have q:=congrArg (fun l=>l[k]?) ck.ysj
        simp only[List.getElem?_map,e1',Option.map_some] at q
        cases hj:js[k]? with
        | none=>rw[hj] at q;cases q
        | some j=>
          rw[hj] at q e2'
          have q1:X.N[j]?=some x:=(Option.some.inj q).symm
          have q2:σ[j]?=some (some v):=by
            have z:(σ[j]?).join=some v:=Option.some.inj e2'
            cases hz:σ[j]? with
            | none=>rw[hz] at z;cases z
            | some y=>rw[hz] at z;exact congrArg some z
          have hf':=ck.ysf x (List.mem_of_getElem? e1')
          have hcell:=ck.fre _ (PySem.mem_of_lookup hf') rfl
          obtain⟨m2,hn2,hl2⟩:=I2.loc
          obtain⟨u,ru,lk⟩:=hl2 j x v q1 q2 (.inr (.inl hcell))
          refine⟨u,ru,?_⟩
          rcases lk with ⟨kk,_⟩ | ⟨_,c,ec,ic⟩
          · have kk':X.env.scope.names.lookup x=some .local:=kk
            have hcell':X.env.scope.names.lookup x=some .cell:=hcell
            rw[hcell'] at kk';cases kk'
          · obtain⟨c',ec'⟩:=cl2 x (PySem.mem_of_lookup hf')
            have:c'=c:=Option.some.inj ((cl1 x c' ec').symm.trans ec)
            subst this
            refine .inr ⟨cD hf',c',ec',?_⟩
            obtain⟨o,ho,hd⟩:=ic
            exact⟨o,old _ o ho,hd⟩
    · obtain⟨v,o,ho,hd⟩:=I2.cell x c (cl1 x c e)
      exact⟨v,o,old _ o ho,hd⟩
    · show upd H2 s2.heap.objs.size _ hh.objs.size=none
      rw[av (Ne.symm hDC)]
      exact I2.hok.fresh hCle
    · obtain⟨v,o,ho,hd⟩:=I2.cell x c (cl1 x c e)
      rw[av (neD (Heap.lt_size ho))]
      exact I2.freeC x c (cl1 x c e)
    · show (List.replicate ts.length none++bh js σ).length=(ts++ys).length
      have q:=congrArg List.length ck.ysj
      simp only[List.length_map] at q
      unfold bh
      simp only[List.length_append,List.length_replicate,List.length_map]
      omega
  have st1:tn 0 h1:=T.keep _ _ _ st2 fun b hb o e=>old b o e
  obtain⟨W,⟨m0,w0⟩,turn⟩:=hR s2.heap.objs.size I2.fresh
  have fpok:∀ {H':Hp},(∀ b ∈ fp,H' b=none)->∀ b ∈ fp,mE (X.comp sc cl hh.objs.size (ts++ys) s2 H2 fp) [] H' b:=fun hn b hb=>
    ⟨hn b hb,fpC b hb,fpS b hb,.inl hb,fun x c a=>(f2 b hb).2.2.2.2.1 x c (cl1 x c a),fun p hp=>absurd (show p ∈ ([]:List (Addr × Obj)) from hp) (by simp)⟩
  have loop:∀ s3:Shared,s3={ s2 with heap:=h1,toks:=s2.toks+([]:List (Str × Value)).length } ->
      codeAny (model X.prog X.w) X.A (.compLoop (.ListComp elt [⟨tg,iter,ifs,0⟩] sc pos) 0 (.ref it) (.ref s2.heap.objs.size) (compEnvC sc cl hh.objs.size X.env))
        (compPost (model X.prog X.w) X.A X.xe none (EP X pins σ Q) (.ref s2.heap.objs.size) hh.objs.size) s3:=by
    rintro s3 rfl
    refine eG (fun n s'=>∃ i acc H',Inv (X.comp sc cl hh.objs.size (ts++ys) s2 H2 fp) [] (List.replicate ts.length none++bh js σ) H' s'/\tn i s'.heap/\(∀ b ∈ fp,H' b=none)/\W i n acc H') ?_ m0
      ⟨0,[],_,Iin _,st1,fun b hb=>by rw[av (fpD b hb)];exact (f2 b hb).1,w0⟩
    rintro n s3 ⟨i,acc,H3,I3,st3,fr3,w3⟩
    obtain⟨hD,hz,alt⟩:=turn i n acc H3 w3
    rcases alt with ⟨stop,q⟩ | ⟨go,step⟩
    · refine thn (T.done (X.comp sc cl hh.objs.size (ts++ys) s2 H2 fp) rfl rfl rfl hc i [] s3 _ H3 _ I3 (fpok fr3) st3 stop) fun r s4 ⟨hr,I4⟩=>?_
      subst hr
      obtain⟨m,hn,_⟩:=id I4.loc
      refine⟨m,hn,fun h' sb=>⟨.ref s2.heap.objs.size,H3,?_,rfl,q⟩⟩
      have ltC:∀ b o,s2.heap.get? b=some o->b ≠ hh.objs.size:=fun b o e=>neC (Heap.lt_size e)
      have b4:Un (frs X.stack) fp H2 H3 s2.heap s4.heap:=I4.base
      refine I2.call' (s':={ s4 with heap:=h' }) (ch:=fp) I4.os ⟨fun b o e n1 n2 n3=>(sb.2 b (ltC b o e)).trans (b4.keep b o e n1 n2 n3),fun b o e n1 n2 n3=>?_,b4.free,fun b o e n1=>?_,b4.tups,b4.frzs,b4.tbls⟩ (fun b ob e=>?_) I4.bare
        (fun b hb=>⟨(f2 b hb).2.2.2.1,(f2 b hb).2.1,(f2 b hb).2.2.2.2.1,(f2 b hb).2.2.2.2.2⟩)
      · obtain⟨sl,e1⟩:=b4.slot b o e n1 n2 n3
        exact⟨sl,(sb.2 b (ltC b o e)).trans e1⟩
      · obtain⟨o',e1⟩:=b4.there b o e n1
        exact⟨o',(sb.2 b (ltC b o e)).trans e1⟩
      · have hfree:H3 hh.objs.size=none:=I4.free
        refine (I4.hok b ob e).stay (fun c w' hc' q'=>(sb.2 c ?_).trans q') (fun _ q'=>q') fun _ _ q'=>q'
        rintro rfl
        rcases hc' with rfl | hc'
        · rw[hfree] at e;cases e
        · rw[hfree] at hc';cases hc'
    · refine thn (T.item (X.comp sc cl hh.objs.size (ts++ys) s2 H2 fp) rfl rfl rfl hc i [] s3 _ H3 _ I3 (fpok fr3) st3 go) fun r s4 ⟨u,hr,h4⟩=>?_
      subst hr
      refine thn h4 fun _ s5 ⟨x,H5,I5,r5,y5,st5,fr5⟩=>?_
      have I5':=I5.pinned (fpok fr5) (T.obj _ _ st5)
      refine thn (hg _ _ _ _ _ _ s5 _ H5 x _ _ I5' r5 (step x H5 y5)) fun _ s6 ⟨σ6,H6,I6,us,hul,hus,q6⟩=>?_
      subst hus
      have again:∀ {H7:Hp} {s7:Shared} {m':Nat} {acc':List V},Inv (X.comp sc cl hh.objs.size (ts++ys) s2 H2 fp) ([]++eX fp s5.heap) (us++bh js σ) H7 s7->m' < n->W (i+1) m' acc' H7 ->
          ∃ m,m < n/\∃ i acc H',Inv (X.comp sc cl hh.objs.size (ts++ys) s2 H2 fp) [] (List.replicate ts.length none++bh js σ) H' s7/\tn i s7.heap/\(∀ b ∈ fp,H' b=none)/\W i m acc H':=fun {H7 s7 m' acc'} I7 hm w7=>by
        refine⟨m',hm,i+1,acc',H7,(I7.unpinned).weak (by rw[List.length_append,List.length_append,List.length_replicate,hul]) (fun k v e=>?_),T.keep _ _ _ st5 fun b hb o e=>(I7.pin (b,o) (List.mem_append_right _ (List.mem_append_right _ (bN hb e)))).1,fun b hb=>?_,w7⟩
        · by_cases hk:k < ts.length
          · rw[List.getElem?_append_left (by rw[List.length_replicate];exact hk),List.getElem?_replicate,if_pos hk] at e
            cases e
          · rw[List.getElem?_append_right (by rw[List.length_replicate];omega),List.length_replicate] at e
            rw[List.getElem?_append_right (by omega),hul]
            exact e
        · obtain⟨o,e,d⟩:=T.obj _ _ st5 b hb
          exact (I7.pin (b,o) (List.mem_append_right _ (List.mem_append_right _ (bN hb e)))).2.1
      refine thn (hf _ _ _ _ _ _ s6 _ H6 _ I6 q6) fun ok s7 ⟨H7,I7,q7⟩=>?_
      cases ok with
      | false=>
        obtain⟨m',hm,w7⟩:=q7
        exact again I7 hm w7
      | true=>
        refine thn (he _ _ _ _ _ _ s7 _ H7 _ I7 q7) fun uy s8 ⟨y,H8,I8,r8,hD8,m',hm,w8⟩=>?_
        refine thn (bg (X:=X.comp sc cl hh.objs.size (ts++ys) s2 H2 fp) _ s8 _ H8 (.ref s2.heap.objs.size) [y] (.ref s2.heap.objs.size) [uy] (fun _ H9=>W (i+1) m' (acc++[y]) H9) I8 rfl (.cons r8 .nil) ⟨_,acc,y,rfl,rfl,hD8,hz,w8⟩) fun _ s9 ⟨_,H9,I9,_,q9⟩=>?_
        exact again I9 hm q9
  exact codeAny_compStart_list (loop _ rfl) (T.self _ 0 _ _ _ st1 (loop _ rfl))
theorem jN {X:Cx} {elt iter tg:Expr} {ifs:List Expr} {sc:Scope} {pos:Pos} {ts:List Str} {ys:List Str} {js:List Nat} {wi:TI} {g:TG} {tc:TT} {te:TE} (hc:X.calm=true) (hck:eO X.N X.env.scope sc ts ys js=true)
    (hi:QI X tg iter wi) (hg:∀ cl C s H fp,QG (X.comp sc cl C (ts++ys) s H fp) tg g) (hf:∀ cl C s H fp,QIf (X.comp sc cl C (ts++ys) s H fp) ifs tc) (he:∀ cl C s H fp,QE (X.comp sc cl C (ts++ys) s H fp) elt te)
    (hs:∀ x,foldedSetIterable iter X.env x=pure x:=by intro _;rfl):QE X (.ListComp elt [⟨tg,iter,ifs,0⟩] sc pos) (rN wi g ts.length js tc te):=
  ⟨qt hc hck hi.h (fun cl C s H fp=>(hg cl C s H fp).h) (fun cl C s H fp=>(hf cl C s H fp).h) (fun cl C s H fp=>(he cl C s H fp).h) hs⟩
section
variable {K:W.Frag} {a:Addr} {xs ys:List V} {js:List Nat} {g:TG} {n:Nat} {te:TE} {σ:St} {Q:VK} {D:Addr} {H1:Hp}
end
end L2
namespace L2
open PySem PySem.Spec PyProof.Rows
theorem ox:typeLookup (.type "list_reverseiterator") "__len__" = pure none:=by rw[typeLookup_type,builtinLookup_eq_fast];kernel_rfl
theorem qS:typeLookup (.type "list_reverseiterator") "__length_hint__" = pure (some (.builtin "list_reverseiterator.__length_hint__")):=by rw[typeLookup_type,builtinLookup_eq_fast];kernel_rfl
section
variable {prog:Program} {w:World} {A:Around} {E:Value->Shared->Prop} {s:Shared}
theorem lP {R:Result->Shared->Prop} {it l:Addr} {items:Array Value} (hh:A.handled=none) (hi:s.heap.IsRevIter it l ((items.size:Int) - 1)) (hl:s.heap.IsList l items) (nl:l ≠ it) (S:Addr) (nS:S ≠ it) (nSl:S ≠ l) (c0:Nat) (hS:s.heap.get? S=some { cls:=.type "list",data:=.seq #[] c0 })
    (hR:∀ h' tk acc c',(∀ b o,b ≠ S->b ≠ it->s.heap.get? b=some o->h'.get? b=some o)->h'.get? S=some { cls:=.type "list",dict:=none,data:=.seq acc c',slots:=#[] }->ItemsOf (fun i v=>items[items.size - 1 - i]?=some v) acc items.size->R (.ok (.ret .none)) { s with heap:=h',toks:=tk })
    (hn:items.size <= sizeLine):wpAny (model prog w) A.in1 (Builtin.List.listExtendWith (.ref S) (.ref it) .none) (fun fin s'=>match fin with | .done f=>R (.ok f) s' | .again c'=>c'.quiet=true/\codeAny (model prog w) A c' R s') (fun e s'=>R (.error e) s') s:=by
  have W:=(Walks.listRev (prog:=prog) (w:=w) (A:=A.in1) hh it l nl items).toS
  have st:(0:Nat) <= items.size/\s.heap.IsRevIter it l ((items.size:Int) - 1 - ((0:Nat):Int))/\s.heap.IsList l items:=⟨Nat.zero_le _,by simpa using hi,hl⟩
  have same:Builtin.List.listSameRef (.ref S) (.ref it)=false:=by simp[Builtin.List.listSameRef,nS]
  unfold Builtin.List.listExtendWith
  refine wpAny_bind (wpAny_typeOf hi.typeIs ?_)
  rw[if_neg (by rw[same];decide)]
  refine wpAny_bind (wpAny_pyIter_revIter hi (wpAny_bind (wpAny_holding ?_)))
  unfold Builtin.List.listLengthHint
  refine wpAny_bind (wpAny_specialOf hi.typeIs ox (show wpAny _ A.in1 (specialOf (Value.ref it) (Str.ofString "__length_hint__") >>= _) _ _ _ from wpAny_bind (wpAny_specialOf hi.typeIs qS ?_)))
  generalize hid:("list_reverseiterator.__length_hint__" : String)=id0
  wp_delta
  rw[show splitId id0=some ("list_reverseiterator", "__length_hint__") from by subst hid;decide +kernel]
  subst hid
  refine wpAny_bind (wpAny_isInstance (b:=true) hi.typeIs (by rw[isSubtype_type];kernel_rfl) (wpAny_pure ?_))
  rw[if_neg (by decide)]
  refine wpAny_pure ⟨plainId_quiet F.plain_extend_loop _,codeAny_extend_loopS W hn S (by simp[nS,nSl]) .none items.size 0 _ #[] c0 rfl (Nat.zero_le _) st hS (ItemsOf.nil _) fun s' acc c' hm hS' ha=>?_⟩
  rw[Moved.eq_with hm]
  refine hR s'.heap s'.toks acc c' (fun b o hb hbi e=>hm.heap b o (fun z=>?_) e) hS' ha
  rcases List.mem_cons.mp z with z | z
  · exact hb z
  · exact hbi (List.mem_singleton.mp z)
theorem qa {it l:Addr} {items:Array Value} {Q:Value->Shared->Prop} (hh:A.handled=none) (hi:s.heap.IsRevIter it l ((items.size:Int) - 1)) (hl:s.heap.IsList l items) (nl:l ≠ it)
    (q:∀ h' tk acc c',(∀ b o,b ≠ it->s.heap.get? b=some o->h'.get? b=some o)->h'.get? s.heap.objs.size=some { cls:=.type "list",dict:=none,data:=.seq acc c',slots:=#[] }->ItemsOf (fun i v=>items[items.size - 1 - i]?=some v) acc items.size->Q (.ref s.heap.objs.size) { s with heap:=h',toks:=tk })
    (hn:items.size <= sizeLine):wpAny (model prog w) A (call (.type "list") [.ref it]) Q E s:=by
  refine callType_codes (Q₁:=fun obj s₁=>obj=.ref s.heap.objs.size/\s₁={ s with heap:=s.heap.push { cls:=.type "list",data:=.seq #[] } }) F.called_list (F.typeCall_list_1 _) F.entry_list_init (code_list_new _ ⟨rfl,rfl⟩) fun obj s₁ h₁=>?_
  obtain⟨rfl,rfl⟩:=h₁
  have hS:(s.heap.push { cls:=.type "list",data:=.seq #[] }).get? s.heap.objs.size=some { cls:=.type "list",data:=.seq #[] }:=Heap.get?_push_size _ rfl
  have li:it < s.heap.objs.size:=let ⟨_,e,_⟩:=hi;Heap.lt_size e
  have ll:l < s.heap.objs.size:=let ⟨_,e,_⟩:=hl;Heap.lt_size e
  refine⟨⟨_,hS,rfl⟩,F.args_list_init_2 _ _,?_⟩
  show wpAny _ _ (do let old <- Builtin.List.listItems (.ref s.heap.objs.size);Builtin.List.listUpdate (.ref s.heap.objs.size) (fun _=>#[]);letGo old.toList.reverse;Builtin.List.listExtendWith (.ref s.heap.objs.size) (.ref it) .none) _ _ _
  refine wpAny_bind ?_
  unfold Builtin.List.listItems
  refine wpAny_bind (wpAny_seqItems hS rfl (wpAny_pure (show wpAny _ _ (updateSeq s.heap.objs.size (fun _=>#[]) >>= fun _=>letGo (#[]:Array Value).toList.reverse >>= fun _=>Builtin.List.listExtendWith (.ref s.heap.objs.size) (.ref it) .none) _ _ _ from wpAny_bind (wpAny_updateSeq hS rfl (wpAny_bind (wpAny_letGo ?_))))))
  have hS2:=Heap.get?_update_self (Obj.mapSeq (fun _=>(#[]:Array Value))) hS rfl
  have ot:∀ b o,b ≠ s.heap.objs.size->s.heap.get? b=some o->((s.heap.push { cls:=.type "list",data:=.seq #[] }).update s.heap.objs.size (Obj.mapSeq (fun _=>(#[]:Array Value)))).get? b=some o:=fun b o hb e=>(Heap.get?_update_other _ _ (Ne.symm hb)).trans (Heap.get?_push_of_some _ e)
  have ni:it ≠ s.heap.objs.size:=Nat.ne_of_lt li
  have nl2:l ≠ s.heap.objs.size:=Nat.ne_of_lt ll
  refine lP (A:=A.in1) hh (hi.at fun o e=>ot it o ni e) (hl.at fun o e=>ot l o nl2 e) nl _ (Ne.symm ni) (Ne.symm nl2) _ hS2 (fun h' tk acc c' hk hS' ha=>⟨rfl,q h' tk acc c' (fun b o hb e=>?_) hS' ha⟩) hn
  have nb:b ≠ s.heap.objs.size:=Nat.ne_of_lt (Heap.lt_size e)
  exact hk b o nb hb (ot b o nb e)
end
section
variable {X:Cx} {e:Expr} {te:TE} {p1 p2 q1 q2:Pos}
def vD (K:W.Frag) (te:TE):TE:=fun σ H Q=>te σ H fun x H1=>∃ l ys,x=.ref l/\SqL K H1 l ys/\∀ r,H1 r=none->Q (.ref r) (upd H1 r (.lst ys.reverse))
theorem nE {vs:List Value} {acc:Array Value} (h:ItemsOf (fun i v=>vs.toArray[vs.toArray.size - 1 - i]?=some v) acc vs.toArray.size):acc.toList=vs.reverse:=by
  obtain⟨h1,h2⟩:=h
  have hz:vs.toArray.size=vs.length:=by simp
  rw[hz] at h1 h2
  refine List.ext_getElem? fun i=>?_
  by_cases hi:i < vs.length
  · have e:acc.toList[i]?=some (acc[i]'(by omega)):=by simp[h1,hi]
    have e2:=h2 i (acc[i]'(by omega)) (by simp[h1,hi])
    rw[e,List.getElem?_reverse hi,<- e2]
    simp
  · rw[List.getElem?_eq_none (by simp[h1];omega),List.getElem?_eq_none (by simp;omega)]
theorem lW (hc:X.calm=true) (g1:Gl X "list") (m1:X.mg "list" = none) (g2:Gl X "reversed") (m2:X.mg "reversed" = none) (he:PE X e te)
    (hs2:starEach [e] X.env=[(false,eval e X.env)]:=by rfl) (hs1:starEach [.Call (.Name "reversed" p2) [e] [] q2] X.env=[(false,eval (.Call (.Name "reversed" p2) [e] [] q2) X.env)]:=by rfl) :
    PE X (.Call (.Name "list" p1) [.Call (.Name "reversed" p2) [e] [] q2] [] q1) (vD X.K te):=by
  intro pins s σ H Q I h
  refine Call_ (dg I g1 m1 PyProof.Rows.boot_list (PyProof.Rows.callWith_type1 ?_ hs1 rfl))
  rw[hs1]
  show wpAny _ _ (spliced ((false,eval (.Call (.Name "reversed" p2) [e] [] q2) X.env)::backTo q1 [])) _ _ s
  refine Calls.spliced_cons (Call_ (dg I g2 m2 boot_reversed (PyProof.Rows.callWith_type1 ?_ hs2 rfl)))
  rw[hs2]
  show wpAny _ _ (spliced ((false,eval e X.env)::backTo q2 [])) _ _ s
  refine Calls.spliced_cons (thn (he pins s σ H _ I h) fun u s1 ⟨x,H1,I1,r1,l,ys,ex,hq,k⟩=>?_)
  subst ex
  cases r1
  refine Calls.spliced_nil ?_
  obtain⟨vs,rv,pl,hz⟩:=I1.list hq
  have hl:=pl.isList
  have hlen:=rv.length
  have ll:l < s1.heap.objs.size:=let ⟨_,e,_⟩:=hl;Heap.lt_size e
  refine call_reversed_list hl (Calls.spliced_nil ?_)
  have nl:l ≠ s1.heap.objs.size:=Nat.ne_of_lt ll
  refine qa (items:=vs.toArray) (I1.ok.hd hc) ⟨_,Heap.get?_push_size _ rfl,rfl,rfl⟩ (hl.at fun o e=>Heap.get?_push_of_some _ e) nl (fun h' tk acc c' hk hS ha=>?_) (by simp;omega)
  have e:=nE ha
  have sz:(s1.heap.push (revObj l ((vs.toArray.size:Int) - 1))).objs.size=s1.heap.objs.size+1:=Heap.size_push ..
  rw[sz] at hS ⊢
  have fr:H1 (s1.heap.objs.size+1)=none:=I1.hok.fresh (Nat.le_succ _)
  refine⟨.ref (s1.heap.objs.size+1),_,I1.laid (t':=tk) (fun b u eb=>hk b u (Nat.ne_of_lt (Heap.lt_size eb)) (Heap.get?_push_of_some _ eb)) (Nat.le_succ _) (show ObjOk X.prog X.w _ h' _ (.lst ys.reverse) from ⟨by rw[List.length_reverse];omega,vs.reverse,c',rv.reverse,?_⟩),rfl,k _ fr⟩
  rw[hS,<- e]
theorem lT (hc:X.calm=true) (g1:Gl X "list") (m1:X.mg "list" = none) (g2:Gl X "reversed") (m2:X.mg "reversed" = none) (he:QE X e te)
    (hs2:starEach [e] X.env=[(false,eval e X.env)]:=by rfl) (hs1:starEach [.Call (.Name "reversed" p2) [e] [] q2] X.env=[(false,eval (.Call (.Name "reversed" p2) [e] [] q2) X.env)]:=by rfl) :
    QE X (.Call (.Name "list" p1) [.Call (.Name "reversed" p2) [e] [] q2] [] q1) (vD X.K te):=⟨lW hc g1 m1 g2 m2 he.h hs2 hs1⟩
end
end L2
namespace TM
open PySem L2
inductive Tm where
  | num (n:Int)
  | text (z:Str)
  | row
  | mark
  | val (k:Int) (z:Str)
  | call (w:Str) (ts:List Tm)
noncomputable def inner:Tm->List Tm
  | .call _ ts=>ts
  | _=>[]
mutual
noncomputable def bC:Tm->Int
  | .call _ ts=>1+bn ts
  | .num _=>1
  | .text _=>1
  | .row=>1
  | .mark=>1
  | .val _ _=>1
noncomputable def bn:List Tm->Int
  | []=>0
  | t::ts=>bC t+bn ts
end
mutual
noncomputable def depth:Tm->Nat
  | .call _ ts=>1+cj ts
  | .num _=>1
  | .text _=>1
  | .row=>1
  | .mark=>1
  | .val _ _=>1
noncomputable def cj:List Tm->Nat
  | []=>0
  | t::ts=>max (depth t) (cj ts)
end
abbrev Pr:=Int × Str
noncomputable def cX (acc:List Pr) (p:Pr):List Pr:=if p ∈ acc then acc else acc++[p]
noncomputable def uni (acc ps:List Pr):List Pr:=ps.foldl cX acc
mutual
noncomputable def named:Tm->List Pr
  | .val k z=>[(k,z)]
  | .call _ ts=>cE [] ts
  | .num _=>[]
  | .text _=>[]
  | .row=>[]
  | .mark=>[]
noncomputable def cE (acc:List Pr):List Tm->List Pr
  | []=>acc
  | t::ts=>cE (uni acc (named t)) ts
end
theorem dX:∀ ts:List Tm,bn ts=(ts.map bC).sum
  | []=>by unfold bn;rfl
  | t::ts=>by unfold bn;rw[List.map_cons,List.sum_cons,dX ts]
theorem jP (t:Tm):bC t=1+((inner t).map bC).sum:=by
  cases t with
  | call w ts=>rw[bC,dX];rfl
  | _=>rw[bC];rfl
theorem gc:∀ {ts:List Tm} {t:Tm},t ∈ ts->depth t <= cj ts
  | [],_,h=>nomatch h
  | x::ts,t,h=>by
    unfold cj
    rcases List.mem_cons.mp h with rfl | h
    · omega
    · have:=gc h;omega
theorem ki (t:Tm):depth t=1+cj (inner t):=by
  cases t with
  | call w ts=>rw[depth];rfl
  | _=>rw[depth];show 1=1+cj [];rw[cj]
theorem fv {t u:Tm} (h:u ∈ inner t):depth u+1 <= depth t:=by
  rw[ki t]
  have:=gc h
  omega
theorem iH (t:Tm):1 <= depth t:=by rw[ki];omega
theorem dZ:∀ (ts:List Tm) (acc:List Pr),cE acc ts=ts.foldl (fun a t=>uni a (named t)) acc
  | [],acc=>by unfold cE;rfl
  | t::ts,acc=>by unfold cE;rw[dZ ts,List.foldl_cons]
noncomputable def uN:Tm->Bool
  | .val _ _=>true
  | _=>false
theorem qR {t:Tm} (h:uN t=false):named t=(inner t).foldl (fun a t=>uni a (named t)) []:=by
  cases t with
  | call w ts=>rw[named,dZ];rfl
  | val k z=>cases h
  | _=>rw[named];rfl
theorem jD {acc:List Pr} (p:Pr) (h:acc.Nodup):(cX acc p).Nodup:=by
  unfold cX
  split
  · exact h
  · rename_i hp
    exact List.nodup_append.mpr ⟨h,List.nodup_cons.mpr ⟨by simp,List.nodup_nil⟩,fun a ha b hb=>by
      rw[List.mem_singleton] at hb
      subst hb
      rintro rfl
      exact hp ha⟩
theorem ig:∀ {ps acc:List Pr},acc.Nodup->(uni acc ps).Nodup
  | [],_,h=>h
  | p::ps,acc,h=>ig (ps:=ps) (jD p h)
theorem eI:∀ (ts:List Tm) {acc:List Pr},acc.Nodup->(cE acc ts).Nodup
  | [],_,h=>by unfold cE;exact h
  | t::ts,acc,h=>by unfold cE;exact eI ts (ig h)
theorem ji (t:Tm):(named t).Nodup:=by
  cases t with
  | call w ts=>rw[named];exact eI ts List.nodup_nil
  | val k z=>rw[named];exact List.nodup_cons.mpr ⟨by simp,List.nodup_nil⟩
  | _=>rw[named];exact List.nodup_nil
theorem fM:∀ {ps acc:List Pr},ps.Nodup->uni acc ps=acc++ps.filter fun p=>!decide (p ∈ acc)
  | [],acc,_=>by simp[uni]
  | p::ps,acc,h=>by
    obtain⟨h1,h2⟩:=List.nodup_cons.mp h
    show uni (cX acc p) ps=_
    rw[fM h2]
    by_cases hp:p ∈ acc
    · have e:cX acc p=acc:=by unfold cX;rw[if_pos hp]
      rw[e,List.filter_cons_of_neg (by simp[hp])]
    · have e:cX acc p=acc++[p]:=by unfold cX;rw[if_neg hp]
      rw[e,List.filter_cons_of_pos (by simp[hp]),List.append_assoc]
      congr 1
      rw[List.singleton_append]
      congr 1
      refine List.filter_congr fun q hq=>?_
      have:q ≠ p:=fun z=>h1 (z ▸ hq)
      simp[this]
def SameT (H H':Hp):Prop:=∀ b xs,H b=some (.tup xs)->H' b=some (.tup xs)
theorem au {H H':Hp} (e:Same H H'):SameT H H':=fun b xs h=>e b _ h
theorem SameT.refl (H:Hp):SameT H H:=fun _ _ h=>h
theorem SameT.trans {H H1 H2:Hp} (a:SameT H H1) (b:SameT H1 H2):SameT H H2:=fun c xs h=>b c xs (a c xs h)
theorem aI {H:Hp} {r:Addr} {xs ys:List V} (h:H r=some (.lst xs)):SameT H (upd H r (.lst ys)):=fun b zs q=>by
  rw[av (eJ q h (fun z=>nomatch z))]
  exact q
mutual
def TmIs (H:Hp):Tm->V->Prop
  | .num n,v=>∃ a,v=.ref a/\H a=some (.tup [.str "num",.int n])
  | .text z,v=>∃ a,v=.ref a/\H a=some (.tup [.str "text",.str z])
  | .row,v=>∃ a,v=.ref a/\H a=some (.tup [.str "row"])
  | .mark,v=>∃ a,v=.ref a/\H a=some (.tup [.str "mark"])
  | .val k z,v=>∃ a,v=.ref a/\H a=some (.tup [.str "of",.int k,.str z])
  | .call w ts,v=>∃ a b vs,v=.ref a/\H a=some (.tup [.str "call",.str w,.ref b])/\H b=some (.tup vs)/\vs.length <= 1000/\TmsIs H ts vs
def TmsIs (H:Hp):List Tm->List V->Prop
  | [],vs=>vs=[]
  | t::ts,vs=>∃ v r,vs=v::r/\TmIs H t v/\TmsIs H ts r
end
mutual
theorem TmIs.same {H H':Hp} (e:SameT H H'):∀ (t:Tm) {v:V},TmIs H t v->TmIs H' t v
  | .num n,v,h=>by unfold TmIs at h ⊢;obtain⟨a,x,y⟩:=h;exact⟨a,x,e _ _ y⟩
  | .text z,v,h=>by unfold TmIs at h ⊢;obtain⟨a,x,y⟩:=h;exact⟨a,x,e _ _ y⟩
  | .row,v,h=>by unfold TmIs at h ⊢;obtain⟨a,x,y⟩:=h;exact⟨a,x,e _ _ y⟩
  | .mark,v,h=>by unfold TmIs at h ⊢;obtain⟨a,x,y⟩:=h;exact⟨a,x,e _ _ y⟩
  | .val k z,v,h=>by unfold TmIs at h ⊢;obtain⟨a,x,y⟩:=h;exact⟨a,x,e _ _ y⟩
  | .call w ts,v,h=>by
    unfold TmIs at h ⊢
    obtain⟨a,b,vs,x,y,z,n,q⟩:=h
    exact⟨a,b,vs,x,e _ _ y,e _ _ z,n,TmsIs.same e ts q⟩
theorem TmsIs.same {H H':Hp} (e:SameT H H'):∀ (ts:List Tm) {vs:List V},TmsIs H ts vs->TmsIs H' ts vs
  | [],vs,h=>by unfold TmsIs at h ⊢;exact h
  | t::ts,vs,h=>by
    unfold TmsIs at h ⊢
    obtain⟨v,r,x,y,z⟩:=h
    exact⟨v,r,x,TmIs.same e t y,TmsIs.same e ts z⟩
end
theorem TmsIs.len {H:Hp}:∀ {ts:List Tm} {vs:List V},TmsIs H ts vs->ts.length=vs.length
  | [],vs,h=>by unfold TmsIs at h;subst h;rfl
  | t::ts,vs,h=>by
    unfold TmsIs at h
    obtain⟨v,r,rfl,_,z⟩:=h
    rw[List.length_cons,List.length_cons,TmsIs.len z]
theorem TmsIs.get {H:Hp}:∀ {ts:List Tm} {vs:List V} {i:Nat} {v:V},TmsIs H ts vs->vs[i]?=some v->∃ t,ts[i]?=some t/\TmIs H t v
  | [],vs,i,v,h,e=>by unfold TmsIs at h;subst h;simp at e
  | t::ts,vs,0,v,h,e=>by
    unfold TmsIs at h
    obtain⟨u,r,rfl,y,z⟩:=h
    simp at e
    subst e
    exact⟨t,rfl,y⟩
  | t::ts,vs,i+1,v,h,e=>by
    unfold TmsIs at h
    obtain⟨u,r,rfl,y,z⟩:=h
    obtain⟨x,hx,q⟩:=TmsIs.get (i:=i) z (by simpa using e)
    exact⟨x,by simpa using hx,q⟩
def IsP (H:Hp) (p:Pr) (v:V):Prop:=∃ a,v=.ref a/\H a=some (.tup [.int p.1,.str p.2])
def IsPs (H:Hp):List Pr->List V->Prop
  | [],vs=>vs=[]
  | p::ps,vs=>∃ v r,vs=v::r/\IsP H p v/\IsPs H ps r
theorem IsP.same {H H':Hp} (e:SameT H H') {p:Pr} {v:V} (h:IsP H p v):IsP H' p v:=by
  obtain⟨a,x,y⟩:=h
  exact⟨a,x,e _ _ y⟩
theorem IsPs.same {H H':Hp} (e:SameT H H'):∀ {ps:List Pr} {vs:List V},IsPs H ps vs->IsPs H' ps vs
  | [],_,h=>h
  | _::_,_,⟨v,r,x,y,z⟩=>⟨v,r,x,y.same e,IsPs.same e z⟩
theorem IsPs.len {H:Hp}:∀ {ps:List Pr} {vs:List V},IsPs H ps vs->ps.length=vs.length
  | [],vs,h=>by cases h;rfl
  | p::ps,vs,⟨v,r,x,_,z⟩=>by subst x;rw[List.length_cons,List.length_cons,IsPs.len z]
theorem IsPs.get {H:Hp}:∀ {ps:List Pr} {vs:List V} {i:Nat} {v:V},IsPs H ps vs->vs[i]?=some v->∃ p,ps[i]?=some p/\IsP H p v
  | [],vs,i,v,h,e=>by cases h;simp at e
  | p::ps,vs,0,v,⟨u,r,x,y,z⟩,e=>by subst x;simp at e;subst e;exact⟨p,rfl,y⟩
  | p::ps,vs,i+1,v,⟨u,r,x,y,z⟩,e=>by
    subst x
    obtain⟨q,hq,w⟩:=IsPs.get (i:=i) z (by simpa using e)
    exact⟨q,by simpa using hq,w⟩
theorem IsPs.app {H:Hp}:∀ {ps qs:List Pr} {vs us:List V},IsPs H ps vs->IsPs H qs us->IsPs H (ps++qs) (vs++us)
  | [],_,_,_,h,g=>by cases h;exact g
  | p::ps,qs,_,us,⟨v,r,x,y,z⟩,g=>by subst x;exact⟨v,r++us,rfl,y,IsPs.app z g⟩
theorem IsPs.one {H:Hp} {p:Pr} {v:V} (h:IsP H p v):IsPs H [p] [v]:=⟨v,[],rfl,h,rfl⟩
theorem iW:∀ (ps acc:List Pr),(uni acc ps).length <= acc.length+ps.length
  | [],acc=>by show acc.length <= acc.length+0;omega
  | p::ps,acc=>by
    have h1:=iW ps (cX acc p)
    have h2:(cX acc p).length <= acc.length+1:=by
      unfold cX
      split
      · omega
      · rw[List.length_append];simp
    show (uni (cX acc p) ps).length <= _
    rw[List.length_cons]
    omega
mutual
theorem ip:∀ t:Tm,1 <= bC t
  | .call w ts=>by rw[bC];have:=dW ts;omega
  | .num _=>by rw[bC];omega
  | .text _=>by rw[bC];omega
  | .row=>by rw[bC];omega
  | .mark=>by rw[bC];omega
  | .val _ _=>by rw[bC];omega
theorem dW:∀ ts:List Tm,0 <= bn ts
  | []=>by rw[bn];omega
  | t::ts=>by
    rw[bn]
    have h1:=ip t
    have h2:=dW ts
    omega
end
mutual
theorem cM:∀ t:Tm,((named t).length:Int) <= bC t
  | .call w ts=>by
    rw[bC,named]
    have:=eE ts []
    simp at this
    omega
  | .num _=>by rw[bC,named];simp
  | .text _=>by rw[bC,named];simp
  | .row=>by rw[bC,named];simp
  | .mark=>by rw[bC,named];simp
  | .val _ _=>by rw[bC,named];simp
theorem eE:∀ (ts:List Tm) (acc:List Pr),((cE acc ts).length:Int) <= acc.length+bn ts
  | [],acc=>by rw[cE,bn];omega
  | t::ts,acc=>by
    rw[cE,bn]
    have h1:=cM t
    have h2:=eE ts (uni acc (named t))
    have h3:=iW (named t) acc
    omega
end
theorem fT:∀ {ts:List Tm} {t:Tm},t ∈ ts->bC t <= bn ts
  | x::ts,t,h=>by
    rw[bn]
    have h1:=ip x
    have h2:=dW ts
    rcases List.mem_cons.mp h with rfl | h
    · omega
    · have:=fT h
      omega
theorem fU:∀ (ts us:List Tm),bn (ts++us)=bn ts+bn us
  | [],us=>by rw[bn];simp
  | t::ts,us=>by rw[List.cons_append,bn,bn,fU ts us];omega
theorem eY {t u:Tm} (h:u ∈ inner t):bC u <= bC t:=by
  have h1:=fT h
  have h2:=jP t
  rw[<- dX] at h2
  omega
theorem kc (t:Tm) (i:Nat):((((inner t).take i).foldl (fun a u=>uni a (named u)) []).length:Int)+1 <= bC t:=by
  rw[<- dZ]
  have h1:=eE ((inner t).take i) []
  have h2:=jP t
  rw[<- dX] at h2
  have h3:=fU ((inner t).take i) ((inner t).drop i)
  rw[List.take_append_drop] at h3
  have h4:=dW ((inner t).drop i)
  simp at h1
  omega
noncomputable def daP (p:Pr):Da:=.tup [.fl (.int p.1),.fl (.str p.2)]
theorem uM {K:W.Frag} {H:Hp} {p:Pr} {v:V} (h:IsP H p v):Isd K H (daP p) v:=by
  obtain⟨a,rfl,e⟩:=h
  unfold daP Isd
  exact⟨a,_,rfl,SqT.of e,cz (oO _) (cz (uL _) dq)⟩
theorem oN {K:W.Frag} {H:Hp}:∀ {ps:List Pr} {vs:List V},IsPs H ps vs->Isds K H (ps.map daP) vs
  | [],_,h=>by cases h;exact dq
  | _::_,_,⟨v,r,x,y,z⟩=>by subst x;exact cz (uM y) (oN z)
theorem vd:∀ ps:List Pr,cA (ps.map daP) <= 1
  | []=>by rw[List.map_nil];unfold cA;omega
  | p::ps=>by
    rw[List.map_cons]
    unfold cA
    have:=vd ps
    have:km (daP p)=1:=by
      unfold daP km cA cA cA km
      rfl
    omega
theorem yc (p q:Pr):eqD (daP p) (daP q)=decide (p=q):=by
  obtain⟨a,b⟩:=p
  obtain⟨c,d⟩:=q
  have e:eqD (daP (a,b)) (daP (c,d))=(eqV (.int a) (.int c) && (eqV (.str b) (.str d) && true)):=by
    unfold daP eqD eh eh eh eqD
    rfl
  rw[e]
  by_cases h1:a=c
  · subst h1
    rw[gU (x:=V.int a) rfl]
    by_cases h2:b=d
    · subst h2
      rw[gU (x:=V.str b) rfl]
      simp
    · have:eqV (V.str b) (V.str d)=false:=by simp[eqV,h2]
      rw[this]
      simp[h2]
  · have:eqV (V.int a) (V.int c)=false:=by simp[eqV,h1]
    rw[this]
    simp[h1]
theorem rF (p:Pr):∀ ps:List Pr,((ps.map daP).any fun e=>eqD e (daP p))=decide (p ∈ ps)
  | []=>by simp
  | q::ps=>by
    rw[List.map_cons,List.any_cons,rF p ps,yc]
    by_cases h:q=p
    · subst h;simp
    · have:p ≠ q:=fun z=>h z.symm
      simp[h,this]
end TM
namespace L2
open PySem PySem.Spec PyProof.Rows
section
variable {X:Cx} {o e value a:Expr} {f:Str} {pos pos' tpos:Pos} {ta tv:TE}
theorem wu {j:Nat} (ha:QE X a ta):QT X (.Compare a [.Is] [.Constant .none j pos'] pos) (tB (yl ta)):=⟨wE (wK ha.h)⟩
end
section
variable {X:Cx} {CX:CXT} {k:Nat} {f C:Addr} {fd:FuncData} {ps:List Str} {sp:Sp} {ds:List Value} {dvs:List V} {E:XK} {x m:Str} {p pos apos:Pos} {e o:Expr} {es:List Expr} {ta:TE} {t:TA}
end
end L2
namespace TM
open PySem L2
open PySem.W PySem.W.KIN PySem.NumText in
theorem uZ (m:Nat):1 <= (Nat.toDigits 10 m).length:=toDigits_len_ge 10 m
theorem eP (a b:Str):(a++b).cps.toList=a.cps.toList++b.cps.toList:=by
  show (a.cps++b.cps).toList=_
  simp
theorem bo (a:Str):a.length=a.cps.toList.length:=by simp[Str.length]
noncomputable def mkS (l:List Nat):Str:=⟨l.toArray⟩
theorem jj (l:List Nat):(mkS l).cps.toList=l:=by simp[mkS]
theorem sY {a b:Str} (h:a.cps.toList=b.cps.toList):a=b:=by
  cases a with | mk x=>cases b with | mk y=>exact congrArg Str.mk (Array.toList_inj.mp h)
noncomputable def oz (c:Nat):Bool:=decide (97 <= c) && decide (c <= 122)
theorem qM (m:Nat):(Str.ofString (toString ((m:Nat):Int))).cps.toList=(Nat.toDigits 10 m).map Char.toNat:=PySem.W.KIN.signs_num m
theorem rz:∀ (k m:Nat),m < 10 ^ (k+1)->(Nat.toDigits 10 m).length <= k+1:=by
  intro k
  induction k with
  | zero=>
    intro m h
    rw[Nat.toDigits_of_lt_base (by simpa using h)]
    exact Nat.le_refl _
  | succ k ih=>
    intro m h
    by_cases h10:m < 10
    · rw[Nat.toDigits_of_lt_base h10]
      simp
    · have hm:m % 10 < 10:=Nat.mod_lt m (by decide)
      have t:Nat.toDigits 10 (m / 10)++Nat.toDigits 10 (m % 10)=Nat.toDigits 10 (10 * (m / 10)+m % 10):=Nat.toDigits_append_toDigits (by decide) (by omega) hm
      rw[Nat.div_add_mod] at t
      rw[<- t,List.length_append,Nat.toDigits_of_lt_base hm]
      have:=ih (m / 10) (by rw[Nat.pow_succ] at h;omega)
      simp only[List.length_cons,List.length_nil]
      omega
theorem uY (m:Nat):Nat.toDigits 10 m ≠ []:=fun z=>by
  have h:=uZ m
  rw[z] at h
  exact absurd h (by decide)
theorem uC {n:Int} (h0:0 <= n) (h1:n < 1000000000000000000):(Str.ofString (toString n)).cps.toList ≠ []/\(Str.ofString (toString n)).cps.toList.length <= 18:=by
  obtain⟨m,rfl⟩:=Int.eq_ofNat_of_zero_le h0
  rw[qM]
  refine⟨fun z=>uY m (List.map_eq_nil_iff.mp z),?_⟩
  rw[List.length_map]
  exact rz 17 m (by omega)
end TM
namespace TM
open PySem L2
open PySem.Builtin.Str (strSub occurrences partsBetween)
end TM
namespace L2
open PySem PySem.Spec PyProof.Rows
open PySem.Builtin.Str (strSub occurrences)
section
variable {X:Cx}
end
section
variable {X:Cx} {tg:Expr}
end
theorem nM {X:Cx} {pos:Pos} {es:List Expr} {k:Nat} {t:TGs} {n:Nat} {K:W.Frag} (hK:X.K=K) (hc:X.calm=true) (h:QGs X es t) (hn:(assignEach es X.env).length=n:=by rfl) (hst:(assignEach es X.env).findIdx? (·.1)=none:=by rfl):QG X (.Tuple es k pos) (gTup K n t):=by
  subst hK
  exact dF hc h hn hst
theorem wD {X:Cx} {K:W.Frag} {o:Expr} {e:Expr} {es:List Expr} {to:TE} {t:TA} {name:Str} {apos:Pos} {cpos:Pos} {T:String} {id:String} {r:V->List V->Hp->VK->Prop} (hK:X.K=K) (pa:PySem.PlainAttrs T) (slot:PySem.Slot T name id) (hty:PySem.typeOf (PySem.Value.builtin id)=Pure.pure (PySem.Value.type "method_descriptor")) (hm:MtR X id r) (ho:QE X o to) (ha:QA X (e::es) t) (hbase:PySem.attributeBase o name (Cx.env X) (PySem.eval o (Cx.env X))=PySem.eval o (Cx.env X):=by rfl) (hfew:(((List.all (PySem.backTo cpos (PySem.starEach (e::es) (Cx.env X))) fun (x:Bool × PySem.Sem PySem.Value)=>!Prod.fst x) && List.all (PySem.backToKw cpos (PySem.keywordEach [] (Cx.env X))) fun (x:Option Str × PySem.Sem PySem.Value)=>Option.isSome (Prod.fst x)) && Decidable.decide ((List.length (e::es)+List.length ([]:List Keyword)+if List.isEmpty ([]:List Keyword)=Bool.true then 0 else 1) < 30))=Bool.true:=by rfl) (hline:(PySem.Pos.endLine apos == PySem.Pos.line cpos)=Bool.true:=by rfl) (hs:PySem.starEach (e::es) (Cx.env X)=(Bool.false,PySem.eval e (Cx.env X))::PySem.starEach es (Cx.env X):=by rfl) (hplain:(List.any (PySem.backTo cpos (PySem.starEach es (Cx.env X))) fun (x:Bool × PySem.Sem PySem.Value)=>Prod.fst x)=Bool.false:=by rfl):QE X (PySem.Expr.Call (PySem.Expr.Attribute o name apos) (e::es) [] cpos) (L2.tBM K T r to t):=by
  subst hK
  exact eB pa slot hty hm ho ha hbase hfew hline hs hplain
end L2
namespace TM
open PySem L2
inductive L2R {α:Type} (R:α->V->Prop):List α->List V->Prop
  | nil:L2R R [] []
  | cons {a:α} {v:V} {as:List α} {vs:List V}:R a v->L2R R as vs->L2R R (a::as) (v::vs)
namespace L2R
variable {α:Type} {R R':α->V->Prop}
theorem imp (h:∀ a v,R a v->R' a v):∀ {as:List α} {vs:List V},L2R R as vs->L2R R' as vs
  | _,_,.nil=>.nil
  | _,_,.cons x y=>.cons (h _ _ x) (imp h y)
theorem len:∀ {as:List α} {vs:List V},L2R R as vs->vs.length=as.length
  | _,_,.nil=>rfl
  | _,_,.cons _ y=>by rw[List.length_cons,List.length_cons,len y]
theorem get:∀ {as:List α} {vs:List V} {i:Nat} {v:V},L2R R as vs->vs[i]?=some v->∃ a,as[i]?=some a/\R a v
  | _,_,i,v,.nil,e=>by simp at e
  | _,_,0,v,.cons (a:=a) x y,e=>by
    simp at e
    subst e
    exact⟨a,rfl,x⟩
  | _,_,i+1,v,.cons x y,e=>by
    obtain⟨b,hb,r⟩:=get (i:=i) y (by simpa using e)
    exact⟨b,by simpa using hb,r⟩
theorem app:∀ {as bs:List α} {vs us:List V},L2R R as vs->L2R R bs us->L2R R (as++bs) (vs++us)
  | _,_,_,_,.nil,g=>g
  | _,_,_,_,.cons x y,g=>.cons x (app y g)
theorem one {a:α} {v:V} (h:R a v):L2R R [a] [v]:=.cons h .nil
theorem snoc {as:List α} {vs:List V} {a:α} {v:V} (h:L2R R as vs) (g:R a v):L2R R (as++[a]) (vs++[v]):=h.app (one g)
theorem nil_of {vs:List V} (h:L2R R [] vs):vs=[]:=by cases h;rfl
theorem inv_cons {a:α} {as:List α} {vs:List V} (h:L2R R (a::as) vs):∃ v r,vs=v::r/\R a v/\L2R R as r:=by
  cases h with
  | cons x y=>exact⟨_,_,rfl,x,y⟩
end L2R
structure Sg where
  nm:Str
  dn:List (Str × Str)
  up:List (Str × Str)
structure Ru where
  k:Int
  nm:Str
  tm:Tm
structure Fm where
  nm:Str
  hd:Str
  br:List Str
  ru:List Ru
structure Gr where
  sg:List Sg
  fm:List Fm
def PrIs (H:Hp) (p:Str × Str) (v:V):Prop:=∃ a,v=.ref a/\H a=some (.tup [.str p.1,.str p.2])
def SgIs (H:Hp) (s:Sg) (v:V):Prop:=∃ p a b us ws,v=.ref p/\H p=some (.tup [.str s.nm,.ref a,.ref b])/\H a=some (.tup us)/\L2R (PrIs H) s.dn us/\H b=some (.tup ws)/\L2R (PrIs H) s.up ws
def RuIs (H:Hp) (r:Ru) (v:V):Prop:=∃ p u,v=.ref p/\H p=some (.tup [.int r.k,.str r.nm,u])/\TmIs H r.tm u
def FmIs (H:Hp) (f:Fm) (v:V):Prop:=∃ p a b us,v=.ref p/\H p=some (.tup [.str f.nm,.str f.hd,.ref a,.ref b])/\H a=some (.tup (f.br.map V.str))/\H b=some (.tup us)/\L2R (RuIs H) f.ru us
def GrIs (H:Hp) (g:Gr) (v:V):Prop:=∃ p a b us ws,v=.ref p/\H p=some (.tup [.ref a,.ref b])/\H a=some (.tup us)/\L2R (SgIs H) g.sg us/\H b=some (.tup ws)/\L2R (FmIs H) g.fm ws
section
variable {H H':Hp}
theorem PrIs.same (e:SameT H H') {p:Str × Str} {v:V} (h:PrIs H p v):PrIs H' p v:=by
  obtain⟨a,x,y⟩:=h
  exact⟨a,x,e _ _ y⟩
theorem SgIs.same (e:SameT H H') {p:Sg} {v:V} (h:SgIs H p v):SgIs H' p v:=by
  obtain⟨p,a,b,us,ws,x,y,z,l,z',l'⟩:=h
  exact⟨p,a,b,us,ws,x,e _ _ y,e _ _ z,l.imp fun _ _=>PrIs.same e,e _ _ z',l'.imp fun _ _=>PrIs.same e⟩
theorem RuIs.same (e:SameT H H') {p:Ru} {v:V} (h:RuIs H p v):RuIs H' p v:=by
  obtain⟨p,u,x,y,z⟩:=h
  exact⟨p,u,x,e _ _ y,TmIs.same e _ z⟩
theorem FmIs.same (e:SameT H H') {p:Fm} {v:V} (h:FmIs H p v):FmIs H' p v:=by
  obtain⟨p,a,b,us,x,y,z,z',l⟩:=h
  exact⟨p,a,b,us,x,e _ _ y,e _ _ z,e _ _ z',l.imp fun _ _=>RuIs.same e⟩
theorem GrIs.same (e:SameT H H') {p:Gr} {v:V} (h:GrIs H p v):GrIs H' p v:=by
  obtain⟨p,a,b,us,ws,x,y,z,l,z',l'⟩:=h
  exact⟨p,a,b,us,ws,x,e _ _ y,e _ _ z,l.imp fun _ _=>SgIs.same e,e _ _ z',l'.imp fun _ _=>FmIs.same e⟩
end
def pK (z:Str):Prop:=z.cps.toList ≠ []/\z.cps.toList.length <= 8/\∀ c ∈ z.cps.toList,oz c=true
abbrev dh:List Str:=["num", "text", "row"]
def yZ (p:Str × Str):Prop:=pK p.1/\p.2 ∈ dh
end TM
namespace L2
open PySem PySem.Spec PyProof.Rows TM
theorem aJ {α:Type} {xs:List α} {i:Nat} {x:α} (h:xs[i]?=some x):xs.take (i+1)=xs.take i++[x]:=by
  rw[List.take_succ,h]
  rfl
section
variable {K:W.Frag} {a:Addr} {xs:List V} {js:List Nat} {g:TG} {n:Nat} {te:TE} {σ:St} {Q:VK} {D:Addr} {H1:Hp} {α:Type} {R:Hp->α->V->Prop} {as:List α}
def OffD (D:Addr) (R:Hp->α->V->Prop):Prop:=∀ H H' acc b v,H D=some (.lst acc)->(∀ c o,c ≠ D->H c=some o->H' c=some o)->R H b v->R H' b v
theorem OffD.ofT (h:∀ H H' b v,SameT H H'->R H b v->R H' b v):OffD D R:=fun H H' acc b v d k r=>h H H' b v (fun c ys e=>k c _ (fun z=>by rw[z,d] at e;cases e) e) r
theorem iJ (st:OffD D R) (hz:xs.length < sizeLine) (hlen:as.length=xs.length) (ha:SqL K H1 a xs) (hD:H1 D=none)
    (he:∀ (i:Nat) (x:V) (b:α) (H:Hp),xs[i]?=some x->as[i]?=some b->Same H1 H->(∃ acc,H D=some (.lst acc))->∀ Q':VK,(∀ y H',Same H H'->R H' b y->Q' y H')->te (some x::bh js σ) H Q')
    (hq:∀ ys H',Same H1 H'->H' D=some (.lst ys)->L2R (R H') as ys->Q (.ref D) H'):fK (Itl K a) js tYes te σ Q D H1:=by
  refine gY (K:=K) (a:=a) (xs:=xs) (fun i acc H=>i <= xs.length/\Same H1 H/\H D=some (.lst acc)/\L2R (R H) (as.take i) acc) hz ⟨Nat.zero_le _,ac hD _,aa,.nil⟩ (fun i acc H ⟨l,s,d,r⟩=>⟨d,?_,Same.seq s ha⟩) ?_ ?_
  · rw[r.len,List.length_take]
    omega
  · rintro i m x acc H hi ⟨l,s,d,r⟩ hm
    have hlt:=aD hi
    obtain⟨b,hb⟩:=aH (xs:=as) (i:=i) (by omega)
    refine he i x b H hi hb s ⟨_,d⟩ _ fun y H4 s4 r4=>⟨s4 _ _ d,xs.length - (i+1),by omega,rfl,hlt,hlt,aN hD (s.trans s4),aa,?_⟩
    have k:∀ c o,c ≠ D->H4 c=some o->upd H4 D (.lst (acc++[y])) c=some o:=fun c o hc e=>by rw[av hc];exact e
    rw[aJ hb]
    exact (r.imp fun b v r=>st _ _ _ b v (s4 _ _ d) k (st _ _ _ b v d (fun c o _ e=>s4 c o e) r)).snoc (st _ _ _ b y (s4 _ _ d) k r4)
  · rintro acc H ⟨l,s,d,r⟩
    rw[List.take_of_length_le (by omega)] at r
    exact hq acc H s d r
theorem mq (st:OffD D R) (hz:xs.length < sizeLine) (hlen:as.length=xs.length) (ha:SqL K H1 a xs) (hD:H1 D=none)
    (he:∀ (i:Nat) (x:V) (b:α) (H:Hp),xs[i]?=some x->as[i]?=some b->Same H1 H->∀ Q':VK,(∀ y H',Same H H'->R H' b y->Q' y H')->g x (List.replicate n none++bh js σ) H fun σ6 H6=>∃ us:List (Option V),us.length=n/\σ6=us++bh js σ/\te σ6 H6 Q')
    (hq:∀ ys H',Same H1 H'->H' D=some (.lst ys)->L2R (R H') as ys->Q (.ref D) H'):pL (Itl K a) g n js tYes te σ Q D H1:=by
  refine⟨fun i m acc H=>m=xs.length - i/\i <= xs.length/\Same H1 H/\H D=some (.lst acc)/\L2R (R H) (as.take i) acc,⟨xs.length,by simp,Nat.zero_le _,ac hD _,aa,.nil⟩,?_⟩
  rintro i m acc H ⟨hm,hi,s,d,r⟩
  refine⟨d,by rw[r.len,List.length_take];omega,?_⟩
  by_cases hlt:i < xs.length
  · refine .inr ⟨?_,fun x H' y=>?_⟩
    · obtain⟨x,hx⟩:=aH hlt
      exact⟨xs,x,Same.seq s ha,hx⟩
    · obtain⟨rfl,hx⟩:=y
      have hx':=hx xs (Same.seq s ha)
      obtain⟨b,hb⟩:=aH (xs:=as) (i:=i) (by omega)
      refine he i x b H' hx' hb s _ fun y H4 s4 r4=>⟨s4 _ _ d,xs.length - (i+1),by omega,rfl,hlt,aN hD (s.trans s4),aa,?_⟩
      have k:∀ c o,c ≠ D->H4 c=some o->upd H4 D (.lst (acc++[y])) c=some o:=fun c o hc e=>by rw[av hc];exact e
      rw[aJ hb]
      exact (r.imp fun b v r=>st _ _ _ b v (s4 _ _ d) k (st _ _ _ b v d (fun c o _ e=>s4 c o e) r)).snoc (st _ _ _ b y (s4 _ _ d) k r4)
  · rw[List.take_of_length_le (by omega)] at r
    exact .inl ⟨⟨xs,Same.seq s ha,by omega⟩,hq acc H s d r⟩
end
end L2
namespace L2
open PySem PySem.Spec PyProof.Rows
end L2
namespace L2
open PySem PySem.Spec PyProof.Rows
section
variable {prog:Program} {w:World} {A:Around} {E:Value->Shared->Prop} {s:Shared}
end
end L2
namespace L2
open PySem PySem.Spec PyProof.Rows
section
variable {prog:Program} {w:World} {A:Around} {E:Value->Shared->Prop} {s:Shared}
end
section
variable {X:Cx} {e:Expr} {te:TE} {p1 p2 q1 q2:Pos}
end
end L2
namespace L2
open PySem PySem.Spec PyProof.Rows
section
variable {X:Cx} {elts:List Expr} {k:Nat} {tpos:Pos}
end
end L2
namespace L2
open PySem PySem.Spec PyProof.Rows
section
variable {X:Cx}
theorem nP {o i:Expr} {pos:Pos} {td ty:TE} (hu:X.A.units+1 < cLine) (ho:QE X o td) (hi:QE X i ty) (hs:xv i:=by intro _ _;rfl):QE X (.Subscript o i pos) (vI td ty):=⟨ud hu ho.h hi.h hs⟩
end
end L2
namespace L2
open PySem PySem.Spec PyProof.Rows
section
variable {X:Cx}
theorem qw (hu:X.A.units+64 < cLine):OpR X (compareOp .NotEq) (fun x y H Q=>∃ a b xs,x=.ref a/\y=.ref b/\SqL X.K H a xs/\SqL X.K H b []/\Q (.bl (!decide (xs=[]))) H):=by
  intro pins s σ H x y v u Q I rx ry h
  obtain⟨a,b,xs,e1,e2,ha,hb,q⟩:=h
  by_cases hx:xs=[]
  · subst hx
    refine wL hu pins s σ H x y v u Q I rx ry ⟨a,b,[],[],[],[],e1,e2,.inr ⟨ha,hb⟩,dq,dq,by unfold cA;omega,?_⟩
    have e:(!(eh [] []))=!decide (([]:List V)=[]):=by unfold eh;rfl
    rw[e]
    exact q
  · subst e1 e2
    cases rx
    cases ry
    obtain⟨us,r1,p1,_⟩:=I.list ha
    obtain⟨ws,r2,p2,_⟩:=I.list hb
    cases r2
    have hne:us ≠ []:=fun z=>hx ((Vals.nil_iff r1).mp z)
    refine SeqAt.RcNeAt.lists_lengths p1.isList p2.isList (by simpa using hne) (by omega) _ _ _ _ ⟨.bl _,H,I,?_,q⟩
    rw[decide_eq_false hx]
    rfl
end
theorem tM {n:String} (h:n = "reversed"\/n = "range_iterator"):["enumerate", "zip", "dict_itemiterator", "dict_reverseitemiterator", "odict_iterator", "itertools.zip_longest", "itertools.pairwise"].contains n=false:=by
  rcases h with rfl | rfl <;> decide
section
variable {X:Cx} {tg e:Expr} {te:TE} {p q:Pos}
end
theorem vJ:isSubtype (.type "range_iterator") (.type "reversed")=pure false:=by rw[isSubtype_type];kernel_rfl
section
variable {prog:Program} {w:World} {A:Around} {E:Value->Shared->Prop} {s:Shared}
noncomputable def rgi (n:Nat):Obj:={ cls:=.type "range_iterator",data:=.fields #[rawInt ((n:Int) - 1),rawInt n,rawInt (-1)] }
theorem wo {r:Addr} {n:Nat} {t u v:Tok} {Q:Value->Shared->Prop} (hr:IsRange s.heap r 0 (n:Int) 1 t u v) (hn:n <= 100000) (h:Q (.ref s.heap.objs.size) { s with heap:=s.heap.push (rgi n) }) :
    wpAny (model prog w) A (call (.builtin "range.__reversed__") [.ref r]) Q E s:=by
  have hT:s.TypeIs (.ref r) "range":=⟨_,hr,rfl⟩
  refine wpAny_call_entry F.slot_range_reversed hT F.entry_range_reversed ?_ (F.args_range_reversed_1 _)
  unfold Builtin.«range.__reversed__»
  refine wpAny_bind (wpAny_of_eq (a:=Value.ref r) rfl ?_)
  have hsz:Builtin.Range.rangeSize 0 (n:Int) 1=n:=by
    unfold Builtin.Range.rangeSize
    rw[if_pos (by decide)]
    split <;> omega
  have hsm:(Builtin.Range.rangeFitsLong 0 && Builtin.Range.rangeFitsLong (n:Int) && Builtin.Range.rangeFitsLong 1 && Builtin.Range.rangeFitsLong (-1) && Builtin.Range.rangeFitsLong (0 - 1) && Builtin.Range.rangeFitsLong (Builtin.Range.rangeSize 0 (n:Int) 1))=true:=by
    rw[hsz]
    simp only[Builtin.Range.rangeFitsLong,Bool.and_eq_true,decide_eq_true_eq]
    omega
  have hf:wpAny (model prog w) A.in1 (Builtin.Range.rangeFields (.ref r)) (fun x s'=>x=(0,(n:Int),1)/\s'=s) (fun _ _=>False) s:=by
    unfold Builtin.Range.rangeFields
    refine wpAny_bind (wpAny_field hr rfl (x:=.int 0 t) rfl (wpAny_bind (wpAny_of_eq (a:=some 0) rfl ?_)))
    refine wpAny_bind (wpAny_field hr rfl (x:=.int n u) rfl (wpAny_bind (wpAny_of_eq (a:=some (n:Int)) rfl ?_)))
    refine wpAny_bind (wpAny_field hr rfl (x:=.int 1 v) rfl (wpAny_bind (wpAny_of_eq (a:=some 1) rfl ?_)))
    exact wpAny_pure ⟨rfl,rfl⟩
  refine wpAny_bind (wpAny_mono hf (fun x s' hx=>?_) fun _ _ z=>z.elim)
  obtain⟨rfl,rfl⟩:=hx
  dsimp only
  rw[hsm,hsz]
  refine wpAny_bind (wpAny_newObj_type (wpAny_pure ⟨_,rfl,?_⟩) (by size_fits))
  have e:(0:Int)+((n:Int) - 1) * 1=(n:Int) - 1:=by omega
  show Q _ { s' with heap:=s'.heap.push { cls:=.type "range_iterator",data:=.fields #[rawInt (0+((n:Int) - 1) * 1),rawInt n,rawInt (-1)] } }
  rw[e]
  exact h
theorem wp {r:Addr} {n:Nat} {t u v:Tok} {Q₁:Value->Shared->Prop} (hr:IsRange s.heap r 0 (n:Int) 1 t u v) (hn:n <= 100000) (h:Q₁ (.ref s.heap.objs.size) { s with heap:=s.heap.push (rgi n) }) :
    codeAny (model prog w) A (.call (.builtin "reversed.__new__") ⟨[.type "reversed",.ref r],[]⟩) (wants Q₁ E) s:=by
  have hT:s.TypeIs (.ref r) "range":=⟨_,hr,rfl⟩
  refine codeAny_of_tree (show wpAny _ A.in1 (do checkBuiltinCall "reversed.__new__" ⟨[.type "reversed",.ref r],[]⟩;again (.builtin "reversed.__new__" ⟨[.type "reversed",.ref r],[]⟩)) _ _ s from wpAny_bind (wpAny_of_eq (F.newCall_reversed_1 _) (wpAny_pure ⟨plainId_quiet F.plain_reversed_new _,codeAny_builtin F.entry_reversed_new ?_⟩)))
  rw[Around.under_plainId F.plain_reversed_new _,Builtin.«reversed.__new__»]
  refine wpAny_bind (wpAny_of_eq (newClass_reversed _) (show wpAny _ _ (_ >>= _) _ _ _ from wpAny_bind (wpAny_of_eq (a:=()) (by first | rfl | kernel_rfl) (wpAny_bind (wpAny_of_eq (a:=()) (by first | rfl | kernel_rfl) ?_)))))
  refine (show wpAny _ _ (_ >>= _) _ _ _ from wpAny_bind (wpAny_specialOf hT F.slot_range_reversed.lookup (show wpAny _ _ (_ >>= _) _ _ _ from wpAny_bind (wpAny_of_eq (F.slot_range_reversed.bind _) ?_))))
  show wpAny _ _ (if (Value.builtin "range.__reversed__" == Value.none)=true then _ else _) _ _ _
  rw[if_neg (by decide)]
  refine wpAny_bind (wpAny_rule (wpAny_bind (m:=runValue (.call (.builtin "range.__reversed__") ⟨[.ref r],[]⟩)) (show wpAny _ _ (call (.builtin "range.__reversed__") [.ref r]) _ _ _ from wo hr hn ?_)))
  first | exact wpAny_pure h | exact wpAny_bind (wpAny_pure (wpAny_pure h))
theorem tO {r:Addr} {n:Nat} {t u v:Tok} {Q:Value->Shared->Prop} (hr:IsRange s.heap r 0 (n:Int) 1 t u v) (hn:n <= 100000) (h:Q (.ref s.heap.objs.size) { s with heap:=s.heap.push (rgi n) }):wpAny (model prog w) A (call (.type "reversed") [.ref r]) Q E s:=by
  refine callType_other (T:="reversed") (U:="range_iterator") (Q₁:=fun obj s₁=>obj=.ref s.heap.objs.size/\s₁={ s with heap:=s.heap.push (rgi n) }) (by decide +kernel) F.create_reversed ⟨_,_,F.mro_reversed⟩ F.made_reversed vJ (F.typeCall_reversed_1 _) (wp hr hn ⟨rfl,rfl⟩) ?_
  intro obj s₁ hq
  obtain⟨e1,e2⟩:=hq
  subst e1 e2
  exact⟨⟨_,Heap.get?_push_size _ rfl,rfl⟩,h⟩
end
def xo (n:Nat):It:=⟨fun i _=>i < n,fun i H x H'=>H'=H/\x=.int ((n:Int) - 1 - (i:Nat)),fun i _=>n <= i⟩
theorem mM {P:Program} {w:World} {K:W.Frag} {tg:Expr} (it:Addr) (n:Nat):vp P w K tg (xo n) [it] it (fun i h=>IsRangeIter h it (((n:Int) - 1)+(i:Nat) * (-1)) ((n:Int) - (i:Nat)) (-1)) where
  mem:=by simp
  obj:=fun i h st b hb=>by
    have e:b=it:=by simpa using hb
    subst e
    exact⟨_,st,fun v z=>by
      have z':Data.fields _=Data.cell v:=z
      cases z'⟩
  keep:=fun i h h' st k=>k it (by simp) _ st
  item:=by
    intro X hP hw hK hc i pins s σ H E I hf st hg
    subst hP hw hK
    obtain⟨f0,f1,f2,f3,f4,f5⟩:=hf it (by simp)
    have W:=Walks.range (prog:=X.prog) (w:=X.w) (I.ok.hd hc) it ((n:Int) - 1) (-1) n
    refine W.item i s _ _ hg st fun v h' tk hv st' kk=>?_
    obtain⟨t,rfl⟩:=hv
    have I1:Inv X pins σ H { s with heap:=h',toks:=tk }:=I.turned (fun b o hb e=>kk b o (by simpa using hb) e) f0 f1 f3 f4 f5
    have e1:((n:Int) - 1)+(i:Nat) * (-1)=(n:Int) - 1 - (i:Nat):=by omega
    refine⟨_,rfl,qY (s:={ s with heap:=h',toks:=tk }) (n:="range_iterator") st' rfl rfl (tM (.inr rfl)) ⟨.int (((n:Int) - 1)+(i:Nat) * (-1)),H,I1,⟨t,rfl⟩,⟨rfl,by rw[e1]⟩,st',fun b hb=>(hf b hb).1⟩⟩
  done:=by
    intro X hP hw hK hc i pins s σ H E I hf st hg
    subst hP hw hK
    obtain⟨f0,f1,f2,f3,f4,f5⟩:=hf it (by simp)
    exact wpAny_pyNext_range_end (I.ok.hd hc) st (by have:n <= i:=hg;omega) fun h' eb=>⟨rfl,I.turned (t':=s.toks) (fun b o hb e=>eb b o hb e) f0 f1 f3 f4 f5⟩
  self:=fun _ _ _ _ _ st h=>wpAny_pyIter_rangeiter st h
section
variable {X:Cx} {tg e:Expr} {te:TE} {p1 p2 q1 q2:Pos}
def xa (te:TE):TI:=fun σ H R=>te σ H fun x H1=>∃ n:Nat,x=.int (n:Int)/\n <= 100000/\R (xo n) H1
theorem tZ (hc:X.calm=true) (g1:Gl X "reversed") (m1:X.mg "reversed" = none) (g2:Gl X "range") (m2:X.mg "range" = none) (he:PE X e te)
    (hs2:starEach [e] X.env=[(false,eval e X.env)]:=by rfl) (hs1:starEach [.Call (.Name "range" p2) [e] [] q2] X.env=[(false,eval (.Call (.Name "range" p2) [e] [] q2) X.env)]:=by rfl) :
    PI X tg (.Call (.Name "reversed" p1) [.Call (.Name "range" p2) [e] [] q2] [] q1) (xa te):=by
  intro pins s σ H R I h
  refine Call_ (dg I g1 m1 boot_reversed (PyProof.Rows.callWith_type1 ?_ hs1 rfl))
  rw[hs1]
  show wpAny _ _ (spliced ((false,eval (.Call (.Name "range" p2) [e] [] q2) X.env)::backTo q1 [])) _ _ s
  refine Calls.spliced_cons (Call_ (dg I g2 m2 boot_range (PyProof.Rows.callWith_type1 ?_ hs2 rfl)))
  rw[hs2]
  show wpAny _ _ (spliced ((false,eval e X.env)::backTo q2 [])) _ _ s
  refine Calls.spliced_cons (thn (he pins s σ H _ I h) fun u s1 ⟨x,H1,I1,r1,n,ex,hn,k⟩=>?_)
  subst ex
  obtain⟨t,rfl⟩:=r1
  refine Calls.spliced_nil ?_
  refine call_range_1 (Calls.spliced_nil ?_)
  have I2:Inv X pins σ H1 { s1 with heap:=s1.heap.push { cls:=.type "range",data:=.fields #[.int 0 s1.toks,.int n t,.int 1 (s1.toks+1)] },toks:=s1.toks+1+1 }:=I1.kept fun b o e=>Heap.get?_push_of_some _ e
  refine tO (s:={ s1 with heap:=s1.heap.push { cls:=.type "range",data:=.fields #[.int 0 s1.toks,.int n t,.int 1 (s1.toks+1)] },toks:=s1.toks+1+1 }) (IsRange.new ..) hn ?_
  have st:IsRangeIter ((s1.heap.push { cls:=.type "range",data:=.fields #[.int 0 s1.toks,.int n t,.int 1 (s1.toks+1)] }).push (rgi n)) (s1.heap.push { cls:=.type "range",data:=.fields #[.int 0 s1.toks,.int n t,.int 1 (s1.toks+1)] }).objs.size (((n:Int) - 1)+((0:Nat):Int) * (-1)) ((n:Int) - ((0:Nat):Int)) (-1):=by
    have e1:((n:Int) - 1)+((0:Nat):Int) * (-1)=(n:Int) - 1:=by simp
    have e2:(n:Int) - ((0:Nat):Int)=n:=by simp
    rw[e1,e2]
    exact Heap.get?_push_size _ rfl
  refine wpAny_pyIter_rangeiter st ⟨_,[(s1.heap.push { cls:=.type "range",data:=.fields #[.int 0 s1.toks,.int n t,.int 1 (s1.toks+1)] }).objs.size],_,_,H1,rfl,I2.kept (t':=s1.toks+1+1) fun b o e=>Heap.get?_push_of_some _ e,mM _ n,st,fun b hb=>?_,k⟩
  have e:b=(s1.heap.push { cls:=.type "range",data:=.fields #[.int 0 s1.toks,.int n t,.int 1 (s1.toks+1)] }).objs.size:=by simpa using hb
  subst e
  exact I2.fpOk (Nat.le_refl _) (I2.hok.fresh (Nat.le_refl _))
theorem tU (hc:X.calm=true) (g1:Gl X "reversed") (m1:X.mg "reversed" = none) (g2:Gl X "range") (m2:X.mg "range" = none) (he:QE X e te)
    (hs2:starEach [e] X.env=[(false,eval e X.env)]:=by rfl) (hs1:starEach [.Call (.Name "range" p2) [e] [] q2] X.env=[(false,eval (.Call (.Name "range" p2) [e] [] q2) X.env)]:=by rfl) :
    QI X tg (.Call (.Name "reversed" p1) [.Call (.Name "range" p2) [e] [] q2] [] q1) (xa te):=⟨tZ hc g1 m1 g2 m2 he.h hs2 hs1⟩
theorem qZ {n:Nat} {g:TG} {tb:TS} {D:hX} {σ:St} {H:Hp} (Pv:Nat->St->Hp->Prop) (h0:Pv 0 σ H)
    (hs:∀ i σ H,i < n->Pv i σ H->g (.int ((n:Int) - 1 - (i:Nat))) σ H fun σ2 H2=>tb { D with nx:=Pv (i+1),ct:=Pv (i+1),bk:=D.nx } σ2 H2) (hd:∀ σ H,Pv n σ H->D.nx σ H) :
    ∃ W:Nat->Nat->St->Hp->Prop,(∃ m,W 0 m σ H)/\∀ i m σ H,W i m σ H ->
      ((xo n).stop i H/\D.nx σ H)\/((xo n).go i H/\∃ N:St->Hp->Prop,(∀ σ' H',N σ' H'->∃ m',m' < m/\W (i+1) m' σ' H')/\∀ x H',(xo n).yld i H x H'->g x σ H' fun σ2 H2=>tb { D with nx:=N,ct:=N,bk:=D.nx } σ2 H2):=by
  refine⟨fun i m σ H=>m=n - i/\i <= n/\Pv i σ H,⟨n,by simp,Nat.zero_le _,h0⟩,?_⟩
  rintro i m σ H ⟨rfl,hi,p⟩
  by_cases hlt:i < n
  · refine .inr ⟨hlt,Pv (i+1),fun σ' H' q=>⟨n - (i+1),by omega,rfl,hlt,q⟩,?_⟩
    rintro x H' ⟨rfl,rfl⟩
    exact hs i σ H' hlt p
  · have e:i=n:=by omega
    subst e
    exact .inl ⟨Nat.le_refl _,hd σ H p⟩
end
end L2
namespace L2
open PySem PySem.Spec PyProof.Rows
section
variable {X:Cx} {Dc:Addr} {dn n:Str} {i:Nat} {np hpos:Pos} {ts:TS} {b0:Stmt} {suite:List Stmt} {pins:List (Addr × Obj)} {σ:St} {H1:Hp} {s1 s':Shared} {D:hX} {ev:Value} {Q:Flow->Shared->Prop}
variable {k:Nat} {f:Addr} {fd:FuncData} {ps:List Str} {sp:Sp} {x:Str} {p cpos epos:Pos} {e:Expr} {es:List Expr} {t:TA} {EX:XK} {N:Hp->Prop} {H:Hp} {s:Shared}
end
section
variable {X:Cx} {Dc:Addr} {dn n:Str} {i:Nat} {np hpos pos ipos:Pos} {ts:TS} {b0:Stmt} {suite:List Stmt} {c:Expr} {tc:TT}
  {k1 k2:Nat} {f1 f2:Addr} {fd1 fd2:FuncData} {ps1 ps2:List Str} {sp1 sp2:Sp} {x1 x2:Str} {p1 p2 c1 c2 q1 q2:Pos} {e1 e2:Expr} {es1 es2:List Expr} {t1 t2:TA}
end
end L2
namespace L2
open PySem PySem.Spec PyProof.Rows
section
variable {prog:Program} {w:World} {A:Around} {E:Value->Shared->Prop} {s:Shared}
theorem dH {it t:Addr} {i:Nat} {vs:Array Value} {x:Value} {Q:Value->Shared->Prop} (hi:s.heap.IsTupleIter it t i) (ht:s.heap.IsTuple t vs) (hx:vs[i]?=some x)
    (q:∀ h',h'.IsTupleIter it t (i+1)->Heap.SameBut it s.heap h'->Q x { s with heap:=h' }):wpAny (model prog w) A (Builtin.SmallTypes.nextOf (.ref it)) Q E s:=by
  obtain⟨o,ho,hc,hd⟩:=id hi
  obtain⟨ot,hot,_,nt,hdt⟩:=ht
  unfold Builtin.SmallTypes.nextOf
  refine wpAny_bind (wpAny_callSpecial?_slot (name:=Str.ofString "__next__") hi.typeIs F.slot_tuple_iterator_next (wpAny_call_entry F.slot_tuple_iterator_next hi.typeIs F.entry_tuple_iterator_next ?_ (F.args_tuple_iterator_next_1 _)))
  show wpAny _ _ (field (.ref it) 0 >>= _) _ _ s
  refine wpAny_bind (wpAny_field ho hd (x:=.ref t) rfl (show wpAny _ _ (if (Value.ref t == Value.none)=true then _ else _) _ _ s from ?_))
  rw[if_neg (show ¬ ((Value.ref t == Value.none)=true) from Bool.false_ne_true)]
  show wpAny _ _ (field (.ref it) 1 >>= _) _ _ s
  refine wpAny_bind (wpAny_field ho hd (x:=.int i 0) rfl (show wpAny _ _ (seqItems? (.ref t) >>= _) _ _ s from wpAny_bind (wpAny_seqItems hot hdt ?_)))
  simp only[Int.toNat_natCast,hx]
  refine wpAny_bind (wpAny_setField ho hd (by simp) (wpAny_pure ⟨x,rfl,wpAny_pure (q _ ⟨_,Heap.get?_update_self _ ho (Obj.isFreed_of_fields (Obj.data_mapFields hd _)),(Obj.cls_mapFields ..).trans hc,?_⟩ (Heap.SameBut.update ..))⟩))
  rw[Obj.data_mapFields hd]
  simp[rawInt]
theorem fN {it t:Addr} {i:Nat} {vs:Array Value} {Q:Value->Shared->Prop} (hh:A.handled=none) (hi:s.heap.IsTupleIter it t i) (ht:s.heap.IsTuple t vs) (hx:vs[i]?=none)
    (q:∀ h' e,Heap.ExtBut it s.heap h'->(∃ o,h'.get? e=some o/\o.cls=.type "StopIteration")->E (.ref e) { s with heap:=h' }):wpAny (model prog w) A (Builtin.SmallTypes.nextOf (.ref it)) Q E s:=by
  obtain⟨o,ho,hc,hd⟩:=id hi
  obtain⟨ot,hot,_,nt,hdt⟩:=ht
  unfold Builtin.SmallTypes.nextOf
  refine wpAny_bind (wpAny_callSpecial?_slot (name:=Str.ofString "__next__") hi.typeIs F.slot_tuple_iterator_next (wpAny_call_entry F.slot_tuple_iterator_next hi.typeIs F.entry_tuple_iterator_next ?_ (F.args_tuple_iterator_next_1 _)))
  show wpAny _ _ (field (.ref it) 0 >>= _) _ _ s
  refine wpAny_bind (wpAny_field ho hd (x:=.ref t) rfl (show wpAny _ _ (if (Value.ref t == Value.none)=true then _ else _) _ _ s from ?_))
  rw[if_neg (show ¬ ((Value.ref t == Value.none)=true) from Bool.false_ne_true)]
  show wpAny _ _ (field (.ref it) 1 >>= _) _ _ s
  refine wpAny_bind (wpAny_field ho hd (x:=.int i 0) rfl (show wpAny _ _ (seqItems? (.ref t) >>= _) _ _ s from wpAny_bind (wpAny_seqItems hot hdt ?_)))
  simp only[Int.toNat_natCast,hx]
  refine wpAny_bind (wpAny_rule (wpAny_bind (wpAny_setField ho hd (by simp) (show wpAny _ _ (newExc (.type "StopIteration") [] >>= _) _ _ _ from wpAny_bind ?_))))
  simp only[newExc,newTuple]
  refine wpAny_bind (wpAny_newObj_type (wpAny_bind (m:=firstArgMember _ _) (wpAny_of_eq (a:=Value.none) (by first | rfl | (simp only[firstArgMember];rfl)) (wpAny_newObj_type ?_ (by size_fits)))) (by size_fits))
  simp only[raiseNew]
  refine wpAny_bind (wpAny_handled ?_)
  first | rw[show A.in1.handled=none from hh] | rw[hh]
  exact wpAny_bind (wpAny_pure (wpAny_throw (q _ _ (((Heap.SameBut.update ..).extBut.push _).push _) ⟨_,Heap.get?_push_size _ rfl,rfl⟩)))
structure ZAp (z TI TO i1 i2 t1 t2:Addr):Prop where
  a1:TI ≠ z
  a2:TO ≠ z
  a3:i1 ≠ z
  a4:i2 ≠ z
  a5:TI ≠ TO
  a6:TI ≠ i1
  a7:TI ≠ i2
  a8:TO ≠ i1
  a9:TO ≠ i2
  b1:i1 ≠ i2
  c1:t1 ≠ z
  c2:t1 ≠ TO
  c3:t1 ≠ i1
  c4:t1 ≠ i2
  d1:t2 ≠ z
  d2:t2 ≠ TO
  d3:t2 ≠ i1
  d4:t2 ≠ i2
structure ZSt (h:Heap) (z TI TO i1 i2 t1 t2:Addr) (k:Nat) (vs us:Array Value) (f:Value):Prop where
  zz:IsZip h z TI TO f
  ti:IsPair h TI (.ref i1) (.ref i2)
  to:∃ a b,IsPair h TO a b
  n1:h.IsTupleIter i1 t1 k
  n2:h.IsTupleIter i2 t2 k
  g1:h.IsTuple t1 vs
  g2:h.IsTuple t2 us
theorem ndA {a b:Nat} (h:a < b\/b < a):a ≠ b:=by omega
theorem pO {h h':Heap} {it t:Addr} {i:Nat} (x:h.IsTupleIter it t i) (k:∀ o,h.get? it=some o->h'.get? it=some o):h'.IsTupleIter it t i:=let ⟨o,ho,r⟩:=x;⟨o,k o ho,r⟩
theorem pT {h h':Heap} {t:Addr} {vs:Array Value} (x:h.IsTuple t vs) (k:∀ o,h.get? t=some o->h'.get? t=some o):h'.IsTuple t vs:=let ⟨o,ho,r⟩:=x;⟨o,k o ho,r⟩
theorem iV {z TI TO i1 i2 t1 t2:Addr} {k:Nat} {vs us:Array Value} {x y:Value} {Q:Option Value->Shared->Prop} (D:ZAp z TI TO i1 i2 t1 t2) (S:ZSt s.heap z TI TO i1 i2 t1 t2 k vs us .none) (hx:vs[k]?=some x) (hy:us[k]?=some y)
    (q:∀ h',ZSt h' z TI TO i1 i2 t1 t2 (k+1) vs us (rawInt s.heap.objs.size)->IsPair h' s.heap.objs.size x y->(∀ c o,c ≠ z->c ≠ TO->c ≠ i1->c ≠ i2->s.heap.get? c=some o->h'.get? c=some o)->Q (some (.ref s.heap.objs.size)) { s with heap:=h' }) :
    wpAny (model prog w) A (pyNext (.ref z)) Q E s:=by
  obtain⟨zz,ti,⟨a,b,to⟩,n1,n2,g1,g2⟩:=S
  have ty:s.TypeIs (.ref z) "zip":=⟨_,zz,rfl⟩
  unfold pyNext
  refine wpAny_bind (wpAny_attempt (wpAny_callSpecial?_slot (name:=Str.ofString "__next__") ty F.slot_zip_next (wpAny_call_entry F.slot_zip_next ty F.entry_zip_next ?_ (F.args_zip_next_1 _))))
  show wpAny _ _ (field (.ref z) 2 >>= _) _ _ _
  refine wpAny_bind (wpAny_field zz rfl (x:=.bool false) rfl (show wpAny _ _ (field (.ref z) 3 >>= _) _ _ _ from wpAny_bind (wpAny_field zz rfl (x:=.ref TI) rfl (wpAny_bind (wpAny_seqItems ti rfl ?_)))))
  refine wpAny_bind (show wpAny _ _ (Builtin.SmallTypes.ownedTupleIsFree (.ref z)) _ _ _ from ?_)
  unfold Builtin.SmallTypes.ownedTupleIsFree
  refine wpAny_bind (wpAny_field zz rfl (x:=.none) rfl (wpAny_pure ?_))
  simp only[if_true]
  refine wpAny_bind (wpAny_rule (wpAny_bind (wpAny_field zz rfl (x:=.ref TO) rfl (wpAny_bind (wpAny_setField_rec zz (by simp) fun u1 z1 k1=>?_)))))
  have e1:∀ c o,c ≠ z->s.heap.get? c=some o->u1.get? c=some o:=k1.extBut
  have m1:u1.objs.size=s.heap.objs.size:=k1.1
  refine wpAny_bind ?_
  simp only[List.zipIdx_nil,List.zipIdx_cons,List.forIn_nil,List.forIn_cons]
  refine wpAny_bind (wpAny_bind (wpAny_onRaise (show wpAny _ _ (Builtin.SmallTypes.nextOf (.ref i1) >>= _) _ _ _ from wpAny_bind (dH (pO n1 fun o=>e1 i1 o D.a3) (pT g1 fun o=>e1 t1 o D.c1) hx fun u2 j1 k2=>wpAny_pure ?_))))
  have e2:∀ c o,c ≠ z->c ≠ i1->s.heap.get? c=some o->u2.get? c=some o:=fun c o h1 h2 e=>k2.extBut c o h2 (e1 c o h1 e)
  have z2:=k2.extBut _ _ D.a3.symm z1
  have to2:IsPair u2 TO a b:=e2 _ _ D.a2 D.a8 to
  refine wpAny_bind (wpAny_seqItems to2 rfl (wpAny_bind (wpAny_updateSeq_pair to2 fun u3 to3 k3=>wpAny_bind (wpAny_letGo (wpAny_pure ?_)))))
  have to3':IsPair u3 TO x b:=to3
  have e3:∀ c o,c ≠ z->c ≠ i1->c ≠ TO->s.heap.get? c=some o->u3.get? c=some o:=fun c o h1 h2 h3 e=>k3.extBut c o h3 (e2 c o h1 h2 e)
  have z3:=k3.extBut _ _ D.a2.symm z2
  refine wpAny_bind (wpAny_bind (wpAny_onRaise (show wpAny _ _ (Builtin.SmallTypes.nextOf (.ref i2) >>= _) _ _ _ from wpAny_bind (dH (pO n2 fun o=>e3 i2 o D.a4 D.b1.symm D.a9.symm) (pT g2 fun o=>e3 t2 o D.d1 D.d3 D.d2) hy fun u4 j2 k4=>wpAny_pure ?_))))
  have to4:IsPair u4 TO x b:=k4.extBut _ _ D.a9 to3'
  refine wpAny_bind (wpAny_seqItems to4 rfl (wpAny_bind (wpAny_updateSeq_pair to4 fun u5 to5 k5=>wpAny_bind (wpAny_letGo (wpAny_pure (wpAny_pure ?_))))))
  have to5':IsPair u5 TO x y:=to5
  have e5:∀ c o,c ≠ z->c ≠ i1->c ≠ TO->c ≠ i2->s.heap.get? c=some o->u5.get? c=some o:=fun c o h1 h2 h3 h4 e=>k5.extBut c o h3 (k4.extBut c o h4 (e3 c o h1 h2 h3 e))
  have z5:=k5.extBut _ _ D.a2.symm (k4.extBut _ _ D.a4.symm z3)
  have m5:u5.objs.size=s.heap.objs.size:=by rw[k5.1,k4.1,k3.1,k2.1,m1]
  have lz:z < s.heap.objs.size:=Heap.lt_size zz
  refine wpAny_bind (wpAny_seqItems to5' rfl (wpAny_bind (wpAny_newTuple ?_)))
  refine wpAny_bind (show wpAny _ _ (Builtin.SmallTypes.ownedTupleHandOut (.ref z) (.ref u5.objs.size)) _ _ _ from ?_)
  unfold Builtin.SmallTypes.ownedTupleHandOut
  have z6:=Heap.get?_push_of_some { cls:=.type "tuple",data:=.seq #[x,y] } z5
  refine wpAny_bind (wpAny_setField_rec z6 (by simp) fun u7 z7 k7=>wpAny_setField_rec z7 (by simp) fun u8 z8 k8=>wpAny_pure ⟨_,rfl,?_⟩)
  have e8:∀ c o,c ≠ z->u5.get? c=some o->u8.get? c=some o:=fun c o h e=>k8.extBut c o h (k7.extBut c o h (Heap.get?_push_of_some _ e))
  have p8:IsPair u8 u5.objs.size x y:=k8.extBut _ _ (by rw[m5];exact Nat.ne_of_gt lz) (k7.extBut _ _ (by rw[m5];exact Nat.ne_of_gt lz) (Heap.get?_push_size _ rfl))
  refine wpAny_pure ?_
  show Q (some (.ref u5.objs.size)) { s with heap:=u8 }
  have z8':IsZip u8 z TI TO (rawInt u5.objs.size):=z8
  rw[m5] at p8 z8' ⊢
  refine q u8 ⟨z8',e8 _ _ D.a1 (e5 _ _ D.a1 D.a6 D.a5 D.a7 ti),⟨x,y,e8 _ _ D.a2 to5'⟩,?_,?_,pT g1 fun o e=>e8 _ _ D.c1 (e5 _ _ D.c1 D.c3 D.c2 D.c4 e),pT g2 fun o e=>e8 _ _ D.d1 (e5 _ _ D.d1 D.d3 D.d2 D.d4 e)⟩ p8 fun c o h1 h2 h3 h4 e=>e8 c o h1 (e5 c o h1 h3 h2 h4 e)
  · exact pO j1 fun o e=>e8 _ _ D.a3 (k5.extBut _ _ D.a8.symm (k4.extBut _ _ D.b1 (k3.extBut _ _ D.a8.symm e)))
  · exact pO j2 fun o e=>e8 _ _ D.a4 (k5.extBut _ _ D.a9.symm e)
theorem kx {z TI TO i1 i2 t1 t2:Addr} {k:Nat} {vs us:Array Value} {Q:Option Value->Shared->Prop} (hh:A.handled=none) (D:ZAp z TI TO i1 i2 t1 t2) (S:ZSt s.heap z TI TO i1 i2 t1 t2 k vs us .none) (hx:vs[k]?=none)
    (q:∀ h',(∀ c o,c ≠ z->c ≠ TO->c ≠ i1->c ≠ i2->s.heap.get? c=some o->h'.get? c=some o)->Q none { s with heap:=h' }):wpAny (model prog w) A (pyNext (.ref z)) Q E s:=by
  obtain⟨zz,ti,⟨a,b,to⟩,n1,n2,g1,g2⟩:=S
  have ty:s.TypeIs (.ref z) "zip":=⟨_,zz,rfl⟩
  unfold pyNext
  refine wpAny_bind (wpAny_attempt (wpAny_callSpecial?_slot (name:=Str.ofString "__next__") ty F.slot_zip_next (wpAny_call_entry F.slot_zip_next ty F.entry_zip_next ?_ (F.args_zip_next_1 _))))
  show wpAny _ _ (field (.ref z) 2 >>= _) _ _ _
  refine wpAny_bind (wpAny_field zz rfl (x:=.bool false) rfl (show wpAny _ _ (field (.ref z) 3 >>= _) _ _ _ from wpAny_bind (wpAny_field zz rfl (x:=.ref TI) rfl (wpAny_bind (wpAny_seqItems ti rfl ?_)))))
  refine wpAny_bind (show wpAny _ _ (Builtin.SmallTypes.ownedTupleIsFree (.ref z)) _ _ _ from ?_)
  unfold Builtin.SmallTypes.ownedTupleIsFree
  refine wpAny_bind (wpAny_field zz rfl (x:=.none) rfl (wpAny_pure ?_))
  simp only[if_true]
  refine wpAny_bind (wpAny_rule (wpAny_bind (wpAny_field zz rfl (x:=.ref TO) rfl (wpAny_bind (wpAny_setField_rec zz (by simp) fun u1 z1 k1=>?_)))))
  refine wpAny_bind ?_
  simp only[List.zipIdx_nil,List.zipIdx_cons,List.forIn_nil,List.forIn_cons]
  refine wpAny_bind (wpAny_bind (wpAny_onRaise (show wpAny _ _ (Builtin.SmallTypes.nextOf (.ref i1) >>= _) _ _ _ from wpAny_bind (fN hh (pO n1 fun o=>k1.extBut i1 o D.a3) (pT g1 fun o=>k1.extBut t1 o D.c1) hx fun u2 e k2 he=>?_))))
  obtain⟨oe,hoe,hce⟩:=he
  have z2:=k2 _ _ D.a3.symm z1
  have nz:e ≠ z:=fun c=>by
    subst c
    rw[z2] at hoe
    cases hoe
    simp at hce
  refine wpAny_setField_rec z2 (by simp) fun u3 _ k3=>?_
  refine wpAny_bind (wpAny_isInstance (T:="StopIteration") (b:=true) ⟨oe,k3.extBut _ _ nz hoe,hce⟩ isSubtype_stop (wpAny_pure (q u3 fun c o h1 _ h3 _ e=>k3.extBut _ _ h1 (k2 _ _ h3 (k1.extBut _ _ h1 e)))))
theorem sJ (l1 l2:Addr) (vs us:Array Value) :
    Meets (Builtin.«zip.__new__» ⟨[.type "zip",.ref l1,.ref l2],[]⟩) (fun _ R s=>s.heap.IsTuple l1 vs/\s.heap.IsTuple l2 us /\
      ∀ h0 h1 h2 h3 h4 h5,h0=s.heap->h1=h0.push { cls:=.type "tuple_iterator",data:=.fields #[.ref l1,.int 0 0] }->h2=h1.push { cls:=.type "tuple_iterator",data:=.fields #[.ref l2,.int 0 0] }->h3=h2.push { cls:=.type "tuple",data:=.seq #[.ref h0.objs.size,.ref h1.objs.size] } ->
        h4=h3.push { cls:=.type "tuple",data:=.seq #[.none,.none] }->h5=h4.push { cls:=.type "zip",data:=.fields #[.none,.bool false,.bool false,.ref h2.objs.size,.ref h3.objs.size] }->R (.ok (.ret (.ref h4.objs.size))) { s with heap:=h5 }):=
  .of_wp fun prog w A R s h=>by
    obtain⟨hp,g,d,tk,os⟩:=s
    obtain⟨hl1,hl2,h⟩:=h
    have hsub:=sub_zip
    have hL1:Heap.IsTuple (Shared.heap ⟨hp,g,d,tk,os⟩) l1 vs:=hl1
    have hL2:Heap.IsTuple (Shared.heap ⟨hp.push { cls:=.type "tuple_iterator",data:=.fields #[.ref l1,.int 0 0] },g,d,tk,os⟩) l2 us:=Heap.IsTuple.push hl2 _
    have h:=h _ _ _ _ _ _ rfl rfl rfl rfl rfl rfl
    wp_walk using wpAny_pyIter_tuple hL1,wpAny_pyIter_tuple hL2
    exact⟨_,rfl,h⟩
theorem sL {l1 l2:Addr} {vs us:Array Value} {Q:Value->Shared->Prop} (g1:s.heap.IsTuple l1 vs) (g2:s.heap.IsTuple l2 us)
    (q:∀ h',ZSt h' (s.heap.objs.size+4) (s.heap.objs.size+2) (s.heap.objs.size+3) s.heap.objs.size (s.heap.objs.size+1) l1 l2 0 vs us .none->(∀ c o,s.heap.get? c=some o->h'.get? c=some o)->Q (.ref (s.heap.objs.size+4)) { s with heap:=h' }) :
    wpAny (model prog w) A (call (.type "zip") [.ref l1,.ref l2]) Q E s:=by
  refine callType_new F.called_zip (by decide) (F.typeCall_zip_2 _ _) (F.newCall_zip_2 _ _) (fun obj=>F.args_object_init_3 obj _ _) F.entry_zip_new (sJ l1 l2 vs us) ⟨g1,g2,fun h0 h1 h2 h3 h4 h5 e0 e1 e2 e3 e4 e5=>?_⟩
  have s1:h1.objs.size=h0.objs.size+1:=by rw[e1];exact Heap.size_push ..
  have s2:h2.objs.size=h0.objs.size+2:=by rw[e2,Heap.size_push,s1]
  have s3:h3.objs.size=h0.objs.size+3:=by rw[e3,Heap.size_push,s2]
  have s4:h4.objs.size=h0.objs.size+4:=by rw[e4,Heap.size_push,s3]
  have k1:∀ c o,h0.get? c=some o->h1.get? c=some o:=fun c o e=>by rw[e1];exact Heap.get?_push_of_some _ e
  have k2:∀ c o,h1.get? c=some o->h2.get? c=some o:=fun c o e=>by rw[e2];exact Heap.get?_push_of_some _ e
  have k3:∀ c o,h2.get? c=some o->h3.get? c=some o:=fun c o e=>by rw[e3];exact Heap.get?_push_of_some _ e
  have k4:∀ c o,h3.get? c=some o->h4.get? c=some o:=fun c o e=>by rw[e4];exact Heap.get?_push_of_some _ e
  have k5:∀ c o,h4.get? c=some o->h5.get? c=some o:=fun c o e=>by rw[e5];exact Heap.get?_push_of_some _ e
  have p5:h5.get? h4.objs.size=some { cls:=.type "zip",data:=.fields #[.none,.bool false,.bool false,.ref h2.objs.size,.ref h3.objs.size] }:=by rw[e5];exact Heap.get?_push_size _ rfl
  have p4:h5.get? h3.objs.size=some { cls:=.type "tuple",data:=.seq #[.none,.none] }:=k5 _ _ (by rw[e4];exact Heap.get?_push_size _ rfl)
  have p3:h5.get? h2.objs.size=some { cls:=.type "tuple",data:=.seq #[.ref h0.objs.size,.ref h1.objs.size] }:=k5 _ _ (k4 _ _ (by rw[e3];exact Heap.get?_push_size _ rfl))
  have p2:h5.get? h1.objs.size=some { cls:=.type "tuple_iterator",data:=.fields #[.ref l2,.int 0 0] }:=k5 _ _ (k4 _ _ (k3 _ _ (by rw[e2];exact Heap.get?_push_size _ rfl)))
  have p1:h5.get? h0.objs.size=some { cls:=.type "tuple_iterator",data:=.fields #[.ref l1,.int 0 0] }:=k5 _ _ (k4 _ _ (k3 _ _ (k2 _ _ (by rw[e1];exact Heap.get?_push_size _ rfl))))
  have kk:∀ c o,h0.get? c=some o->h5.get? c=some o:=fun c o e=>k5 _ _ (k4 _ _ (k3 _ _ (k2 _ _ (k1 _ _ e))))
  rw[s1] at p2 p3
  rw[s2] at p3 p5
  rw[s3] at p4 p5
  rw[s4] at p5 ⊢
  subst e0
  exact⟨⟨_,p5,rfl⟩,q h5 ⟨p5,p3,⟨_,_,p4⟩,⟨_,p1,rfl,rfl⟩,⟨_,p2,rfl,rfl⟩,pT g1 fun o e=>kk _ _ e,pT g2 fun o e=>kk _ _ e⟩ kk⟩
end
def yo (xs ys:List V):Nat->List V->Prop:=fun i vs=>∃ x y,xs[i]?=some x/\ys[i]?=some y/\vs=[x,y]
theorem mL {P:Program} {w:World} {K:W.Frag} {elts:List Expr} {m:Nat} {pos:Pos} {z TI TO i1 i2 t1 t2:Addr} {xs ys:List V} (D:ZAp z TI TO i1 i2 t1 t2) (hl:ys.length=xs.length) :
    vp P w K (.Tuple elts m pos) (ItW xs.length (fun H=>SqT K H t1 xs/\SqT K H t2 ys) (yo xs ys)) [z,TI,TO,i1,i2] z (fun i h=>IsZip h z TI TO .none/\IsPair h TI (.ref i1) (.ref i2)/\(∃ a b,IsPair h TO a b)/\h.IsTupleIter i1 t1 i/\h.IsTupleIter i2 t2 i) where
  mem:=by simp
  obj:=fun i h ⟨zz,ti,⟨a,b,to⟩,⟨o1,h1,c1,d1⟩,⟨o2,h2,c2,d2⟩⟩ c hc=>by
    simp only[List.mem_cons,List.mem_nil_iff,or_false] at hc
    rcases hc with rfl | rfl | rfl | rfl | rfl
    · exact⟨_,zz,fun v q=>by cases q⟩
    · exact⟨_,ti,fun v q=>by cases q⟩
    · exact⟨_,to,fun v q=>by cases q⟩
    · exact⟨o1,h1,fun v q=>by rw[d1] at q;cases q⟩
    · exact⟨o2,h2,fun v q=>by rw[d2] at q;cases q⟩
  keep:=fun i h h' ⟨zz,ti,⟨a,b,to⟩,n1,n2⟩ k=>⟨k z (by simp) _ zz,k TI (by simp) _ ti,⟨a,b,k TO (by simp) _ to⟩,pO n1 fun o e=>k i1 (by simp) o e,pO n2 fun o e=>k i2 (by simp) o e⟩
  item:=by
    intro X hP hw hK hc i pins s σ H E I hf ht hg
    obtain⟨hi,q1,q2⟩:=hg
    subst hP hw hK
    obtain⟨vs,r1,p1,_⟩:=I.tuple q1
    obtain⟨us,r2,p2,_⟩:=I.tuple q2
    obtain⟨x,hx⟩:=aH hi
    obtain⟨y,hy⟩:=aH (show i < ys.length by rw[hl];exact hi)
    obtain⟨x',hx',rx⟩:=r1.get hx
    obtain⟨y',hy',ry⟩:=r2.get hy
    obtain⟨zz,ti,to,n1,n2⟩:=ht
    refine iV (x:=x') (y:=y') D ⟨zz,ti,to,n1,n2,p1,p2⟩ (by simpa using hx') (by simpa using hy') fun h1 S1 pr k1=>?_
    refine⟨_,rfl,wpAny_letOwnedTupleGo_zip S1.zz fun h2 z2 k2=>?_⟩
    have lt:∀ {c:Addr} {o:Obj},s.heap.get? c=some o->s.heap.objs.size ≠ c:=fun e=>Nat.ne_of_gt (Heap.lt_size e)
    have e2:∀ c o,c ∉ [z,TO,i1,i2]->s.heap.get? c=some o->h2.get? c=some o:=fun c o hc e=>by
      simp only[List.mem_cons,List.mem_nil_iff,or_false,not_or] at hc
      exact k2.extBut _ _ hc.1 (k1 c o hc.1 hc.2.1 hc.2.2.1 hc.2.2.2 e)
    have tp:IsTup h2 s.heap.objs.size [x',y'].toArray:=⟨_,k2.extBut _ _ (lt zz) pr,rfl,_,rfl⟩
    refine⟨.ref s.heap.objs.size,upd H s.heap.objs.size (.tup [x,y]),I.turnedT (wr:=[z,TO,i1,i2]) e2 (fun b hb=>hf b ?_) (Nat.le_refl _) (by show 2 <= sizeLine;decide) (.cons rx (.cons ry .nil)) tp (.inr fun u q=>by rw[k2.extBut _ _ (lt zz) pr] at q;cases q;rfl),rfl,⟨_,_,rfl,I.hok.fresh (Nat.le_refl _),⟨x,y,hx,hy,rfl⟩,rfl⟩,?_,fun b hb=>?_⟩
    · simp only[List.mem_cons,List.mem_nil_iff,or_false] at hb ⊢
      rcases hb with h | h | h | h
      · exact .inl h
      · exact .inr (.inr (.inl h))
      · exact .inr (.inr (.inr (.inl h)))
      · exact .inr (.inr (.inr (.inr h)))
    · obtain⟨a,b,to1⟩:=S1.to
      exact⟨z2,k2.extBut _ _ D.a1 S1.ti,⟨a,b,k2.extBut _ _ D.a2 to1⟩,pO S1.n1 fun o e=>k2.extBut _ _ D.a3 e,pO S1.n2 fun o e=>k2.extBut _ _ D.a4 e⟩
    · obtain⟨a',b',to0⟩:=to
      obtain⟨o1,ho1,_⟩:=n1
      obtain⟨o2,ho2,_⟩:=n2
      have f:=(hf b hb).1
      simp only[List.mem_cons,List.mem_nil_iff,or_false] at hb
      rw[av]
      · exact f
      · rcases hb with rfl | rfl | rfl | rfl | rfl
        · exact (lt zz).symm
        · exact (lt ti).symm
        · exact (lt to0).symm
        · exact (lt ho1).symm
        · exact (lt ho2).symm
  done:=by
    intro X hP hw hK hc i pins s σ H E I hf ht hg
    obtain⟨hi,q1,q2⟩:=hg
    subst hP hw hK hi
    obtain⟨vs,r1,p1,_⟩:=I.tuple q1
    obtain⟨us,r2,p2,_⟩:=I.tuple q2
    obtain⟨zz,ti,to,n1,n2⟩:=ht
    have hl1:=r1.length
    refine kx (I.ok.hd hc) D ⟨zz,ti,to,n1,n2,p1,p2⟩ (by simp;omega) fun h1 k1=>⟨rfl,I.turnedL (t':=s.toks) (wr:=[z,TO,i1,i2]) (fun c o hc e=>?_) fun b hb=>hf b ?_⟩
    · simp only[List.mem_cons,List.mem_nil_iff,or_false,not_or] at hc
      exact k1 c o hc.1 hc.2.1 hc.2.2.1 hc.2.2.2 e
    · simp only[List.mem_cons,List.mem_nil_iff,or_false] at hb ⊢
      rcases hb with h | h | h | h
      · exact .inl h
      · exact .inr (.inr (.inl h))
      · exact .inr (.inr (.inr (.inl h)))
      · exact .inr (.inr (.inr (.inr h)))
  self:=fun _ _ _ _ _ st h=>wpAny_pyIter_zip st.1 h
section
variable {X:Cx} {elts:List Expr} {k:Nat} {tpos:Pos}
def yz (K:W.Frag) (ta:TA):TI:=fun σ H R=>ta σ H fun vs H1=>∃ a b xs ys,vs=[.ref a,.ref b]/\SqT K H1 a xs/\SqT K H1 b ys/\ys.length=xs.length/\R (ItW xs.length (fun H=>SqT K H a xs/\SqT K H b ys) (yo xs ys)) H1
theorem tY {a b:Expr} {ta:TA} {p pos:Pos} (hg:Gl X "zip") (hm:X.mg "zip" = none) (ha:PA X [a,b] ta) (hs:starEach [a,b] X.env=[(false,eval a X.env),(false,eval b X.env)]:=by rfl) (hs2:starEach [b] X.env=[(false,eval b X.env)]:=by rfl) :
    PI X (.Tuple elts k tpos) (.Call (.Name "zip" p) [a,b] [] pos) (yz X.K ta):=by
  intro pins s σ H R I h
  refine Call_ (dg I hg hm boot_zip (PyProof.Rows.callWith_type1 (thn (ha pos pins s σ H _ I h) fun us s1 ⟨vs,H1,I1,r1,q1⟩=>?_) (by rw[hs,hs2]) (by rw[hs2];rfl)))
  obtain⟨a,b,xs,ys,e,h1,h2,hl,q⟩:=q1
  subst e
  cases r1 with
  | cons r rr=>
    cases rr with
    | cons r' rr=>
      cases rr
      cases r
      cases r'
      obtain⟨vs1,_,p1,_⟩:=I1.tuple h1
      obtain⟨vs2,_,p2,_⟩:=I1.tuple h2
      have la:a < s1.heap.objs.size:=let ⟨_,e,_⟩:=p1;Heap.lt_size e
      have lb:b < s1.heap.objs.size:=let ⟨_,e,_⟩:=p2;Heap.lt_size e
      refine sL (show s1.heap.IsTuple a vs1.toArray from p1) (show s1.heap.IsTuple b vs2.toArray from p2) fun h' S kp=>wpAny_pyIter_zip S.zz ?_
      have I2:Inv X pins σ H1 { s1 with heap:=h' }:=I1.kept (t':=s1.toks) kp
      refine⟨s1.heap.objs.size+4,[s1.heap.objs.size+4,s1.heap.objs.size+2,s1.heap.objs.size+3,s1.heap.objs.size,s1.heap.objs.size+1],_,_,H1,rfl,I2,mL (t1:=a) (t2:=b) ⟨?_,?_,?_,?_,?_,?_,?_,?_,?_,?_,?_,?_,?_,?_,?_,?_,?_,?_⟩ hl,⟨S.zz,S.ti,S.to,S.n1,S.n2⟩,?fp,q⟩
      case fp=>
       intro b hb
       have hb':s1.heap.objs.size <= b:=by
        simp only[List.mem_cons,List.mem_nil_iff,or_false] at hb
        rcases hb with rfl | rfl | rfl | rfl | rfl
        · exact Nat.le_add_right _ _
        · exact Nat.le_add_right _ _
        · exact Nat.le_add_right _ _
        · exact Nat.le_refl _
        · exact Nat.le_add_right _ _
       exact I1.fpOk hb' (I1.hok.fresh hb')
      all_goals first
        | exact ndA (by omega)
        | exact Nat.ne_of_lt (Nat.lt_of_lt_of_le la (Nat.le_add_right _ _))
        | exact Nat.ne_of_lt (Nat.lt_of_lt_of_le lb (Nat.le_add_right _ _))
        | exact Nat.ne_of_lt la
        | exact Nat.ne_of_lt lb
theorem nK {a b:Expr} {ta:TA} {p pos:Pos} (hg:Gl X "zip") (hm:X.mg "zip" = none) (ha:QA X [a,b] ta) (hs:starEach [a,b] X.env=[(false,eval a X.env),(false,eval b X.env)]:=by rfl) (hs2:starEach [b] X.env=[(false,eval b X.env)]:=by rfl) :
    QI X (.Tuple elts k tpos) (.Call (.Name "zip" p) [a,b] [] pos) (yz X.K ta):=⟨tY hg hm ha.h hs hs2⟩
end
end L2
namespace L2
open PySem PySem.Spec PyProof.Rows
abbrev kwS (k:Tok):List (Str × Value):=[(Str.ofString "start",.int 1 k)]
theorem uR (a:Value) (k:Tok):checkTypeCall "enumerate" ⟨[a],kwS k⟩=pure ():=by kernel_rfl
theorem uS (a:Value) (k:Tok):checkBuiltinCall "enumerate.__new__" ⟨[.type "enumerate",a],kwS k⟩=pure ():=by kernel_rfl
theorem uW (o a:Value) (k:Tok):argsOk "object.__init__" ⟨[o,a],kwS k⟩:=by
  unfold argsOk
  rw[signature?_of (id:="object.__init__") (n:=['_','_','t','i','n','i','_','_']) (o:=['t','c','e','j','b','o']) (by kernel_rfl) F.owner_object]
  kernel_rfl
theorem uT (l:Addr) (vs:Array Value) (k:Tok) :
    Meets (Builtin.«enumerate.__new__» ⟨[.type "enumerate",.ref l],kwS k⟩) (fun _ R s=>s.heap.IsTuple l vs /\
      ∀ h0 h1 h2,h0=s.heap->h1=h0.push { cls:=.type "tuple_iterator",data:=.fields #[.ref l,.int 0 0] }->h2=h1.push { cls:=.type "enumerate",data:=.fields #[.none,.bool false,.ref h0.objs.size,rawInt 1,.none,.none] }->R (.ok (.ret (.ref h1.objs.size))) { s with heap:=h2 }):=
  .of_wp fun prog w A R s h=>by
    obtain⟨hp,g,d,tk,os⟩:=s
    obtain⟨hl1,h⟩:=h
    have hsub:=sub_enumerate
    have hL1:Heap.IsTuple (Shared.heap ⟨hp,g,d,tk,os⟩) l vs:=hl1
    have h:=h _ _ _ rfl rfl rfl
    wp_walk
    refine wpAny_stack_any fun st=>wpAny_pure ?_
    split
    · rename_i c _ _ _ _ _
      cases (c == Value.type "enumerate")
      · wp_walk using wpAny_pyIter_tuple hL1
        exact⟨_,rfl,h⟩
      · wp_walk using wpAny_pyIter_tuple hL1
        exact⟨_,rfl,h⟩
    · wp_walk using wpAny_pyIter_tuple hL1
      exact⟨_,rfl,h⟩
theorem uU {T newId:String} {self a:Value} {k:Tok} (hl:typeLookup (.type T) "__init__" = pure (some (.builtin "object.__init__")))
    (hm:Bind.madeBy (.type T)=pure (some newId)) (hne:(some newId != some "object.__new__")=true) :
    Meets (Builtin.«object.__init__» ⟨[self,a],kwS k⟩) (fun _ R s=>s.TypeIs self T/\R (.ok (.ret .none)) s):=by
  refine Meets.of_wp fun prog w A R s hs=>?_
  obtain⟨hT,hq⟩:=hs
  repeat any_goals (first | assumption | wp_step)
  exact⟨_,rfl,hq⟩
end L2
namespace L2
open PySem PySem.Spec PyProof.Rows
section
variable {prog:Program} {w:World} {A:Around} {E:Value->Shared->Prop} {s:Shared}
theorem uV {l:Addr} {vs:Array Value} {k:Tok} {Q:Value->Shared->Prop} (g1:s.heap.IsTuple l vs)
    (q:∀ h',IsEnum h' (s.heap.objs.size+1) s.heap.objs.size 1 .none->h'.IsTupleIter s.heap.objs.size l 0->(∀ c o,s.heap.get? c=some o->h'.get? c=some o)->Q (.ref (s.heap.objs.size+1)) { s with heap:=h' }) :
    wpAny (model prog w) A (call (.type "enumerate") [.ref l] (kwS k)) Q E s:=by
  obtain⟨c,tl,hmro⟩:=F.called_enumerate.mro
  have hmade:=F.called_enumerate.made
  have hsub:=F.called_enumerate.sub
  have hct:=uR (.ref l) k
  refine wpAny_call (codeAny_of_tree (show wpAny _ _ (callAny (.type "enumerate") _) _ _ _ from wpAny_pure ⟨Code.quiet_builtin _ (by decide +kernel),codeAny_builtin F.entry_type_call ?_⟩))
  rw[Around.under_plain (weight_type_call_type "enumerate" [.ref l] (kwS k)) rfl]
  have h1:=F.called_enumerate.notType
  have h2:=F.called_enumerate.canCreate
  repeat any_goals (first | assumption | wp_step)
  have hS:(s.heap.push { cls:=.type "tuple_iterator",data:=.fields #[.ref l,.int 0 0] }).objs.size=s.heap.objs.size+1:=Heap.size_push ..
  refine codeAny_mono (codeAny_call_builtin F.called_enumerate.plain F.entry_enumerate_new (wpAny_of_eq (uS (.ref l) k) (uT l vs k prog w A.in1 (wants (fun obj s₁=>s₁.TypeIs obj "enumerate"/\Q obj s₁) E) s ⟨g1,fun h0 h1 h2 e0 e1 e2=>?_⟩))) fun r s₁ hr=>?_
  · subst e0 e1 e2
    have he:IsEnum ((s.heap.push { cls:=.type "tuple_iterator",data:=.fields #[.ref l,.int 0 0] }).push { cls:=.type "enumerate",data:=.fields #[.none,.bool false,.ref s.heap.objs.size,rawInt 1,.none,.none] }) (s.heap.objs.size+1) s.heap.objs.size 1 .none:=by
      have:=Heap.get?_push_size (s.heap.push { cls:=.type "tuple_iterator",data:=.fields #[.ref l,.int 0 0] }) (o:={ cls:=.type "enumerate",data:=.fields #[.none,.bool false,.ref s.heap.objs.size,rawInt 1,.none,.none] }) rfl
      rw[hS] at this
      exact this
    show _/\_
    rw[hS]
    exact⟨⟨_,he,rfl⟩,q _ he ⟨_,Heap.get?_push_of_some _ (Heap.get?_push_size _ rfl),rfl,rfl⟩ fun c o x=>Heap.get?_push_of_some _ (Heap.get?_push_of_some _ x)⟩
  · cases r with
    | error e=>exact hr
    | ok fl=>
      cases fl with
      | ret obj=>
        obtain⟨hT,hq⟩:=hr
        have hli:=F.called_enumerate.init.lookup
        have hbi:=F.called_enumerate.init.bind obj
        repeat any_goals (first | assumption | wp_step)
        refine codeAny_mono (codeAny_call_builtin F.called_enumerate.init.plain F.entry_object_init (F.called_enumerate.init.check _ _ _ _ _ _ _ _ hT (uW obj (.ref l) k) (uU F.called_enumerate.init.lookup F.called_enumerate.made (by decide) prog w A.in1 (wants (fun r s₂=>r=.none/\Q obj s₂) E) s₁ ⟨hT,rfl,hq⟩))) fun r₂ s₂ hr₂=>?_
        cases r₂ with
        | error e=>exact hr₂
        | ok fl₂=>
          cases fl₂ with
          | ret r=>
            obtain⟨rfl,hq⟩:=hr₂
            repeat any_goals (first | assumption | wp_step)
          | _=>exact hr₂.elim
      | _=>exact hr.elim
theorem iN {M:Model} {A:Around} {E:Value->Shared->Prop} {s:Shared} {env:Env} {pos:Pos} {T:String} {e:Expr} {kws:List Keyword} {Q:Value->Shared->Prop}
    (h:wpAny M A (spliced (backTo pos (starEach [e] env))) (fun vs s₁=>wpAny M A (evalAll ((backToKw pos (keywordEach kws env)).map (·.2))) (fun kvs s₂=>wpAny M A (call (.type T) vs (((backToKw pos (keywordEach kws env)).filterMap (·.1)).zip kvs)) Q E s₂) E s₁) E s)
    (he:backTo pos (starEach [e] env)=(false,eval e env)::backTo pos (starEach [] env)) (hp:(backTo pos (starEach [e] env)).any (·.1)=false)
    (ha:(backToKw pos (keywordEach kws env)).all (·.1.isSome)=true) (hk:(backToKw pos (keywordEach kws env)).any (·.1.isNone)=false) :
    wpAny M A (callWith pos (.type T) [] (backTo pos (starEach [e] env)) (backToKw pos (keywordEach kws env))) Q E s:=by
  have g:wpAny M A (evalArgs (.type T) true (backTo pos (starEach [e] env)) (backToKw pos (keywordEach kws env))) (fun a s₁=>wpAny M A (call (.type T) ([]++a.pos) a.kw) Q E s₁) E s:=by
    rw[he] at h ⊢
    exact evalArgs_kwB ha h
  unfold callWith
  refine wpAny_bind (wpAny_holding (wpAny_mono g (fun a s₁ h₁=>wpAny_bind (wpAny_standAt ?_)) fun _ _ x=>x))
  rw[hp,hk]
  exact wpAny_bind (wpAny_pure (wpAny_bind (wpAny_mono h₁ (fun r s₂ hr=>wpAny_bind (wpAny_holding (wpAny_point (wpAny_pure hr)))) fun _ _ x=>x)))
end
theorem sD {prog:Program} {w:World} {A:Around} (hh:A.handled=none) (it t:Addr) (hne:t ≠ it) (vs:Array Value) :
    Draws prog w A it [it,t] (vs.size+1) (fun j v=>∃ i,j=i+1/\vs[i]?=some v) (fun j h=>∃ i,j=i+1/\h.IsTupleIter it t i/\h.IsTuple t vs) where
  live:=fun j h ⟨i,_,⟨o,ho,_⟩,_⟩=>⟨o,ho⟩
  frame:=fun j h h' ⟨i,e,hi,ht⟩ k=>⟨i,e,pO hi fun o x=>k it (by simp) o x,pT ht fun o x=>k t (by simp) o x⟩
  item:=fun j s Q E hj ⟨i,e,hi,ht⟩ hQ=>by
    have hlt:i < vs.size:=by omega
    have hx:vs[i]?=some vs[i]:=Array.getElem?_eq_getElem hlt
    refine dH hi ht hx fun h' hi' hs=>hQ _ h' s.toks ⟨i,e,hx⟩ ⟨i+1,by omega,hi',pT ht fun o x=>(hs.2 t hne).trans x⟩ hs
  done:=fun s Q E ⟨i,e,hi,ht⟩ hE=>fN hh hi ht (Array.getElem?_eq_none (by omega)) hE
def yv (xs:List V):Nat->List V->Prop:=fun i vs=>∃ x,xs[i]?=some x/\vs=[.int ((i:Int)+1),x]
theorem pS {P:Program} {w:World} {K:W.Frag} {elts:List Expr} {k:Nat} {pos:Pos} (xs:List V) {e it l:Addr} (ne:e ≠ it) (le:l ≠ e) (li:l ≠ it) :
    vp P w K (.Tuple elts k pos) (ItW xs.length (fun H=>SqT K H l xs) (yv xs)) [e,it] e (fun i h=>(∃ old,IsEnum h e it ((i+1:Nat):Int) old)/\h.IsTupleIter it l i) where
  mem:=by simp
  obj:=fun i h ht b hb=>by
    obtain⟨⟨old,he⟩,o,ho,c,d⟩:=ht
    rcases List.mem_cons.mp hb with z | z
    · rw[z]
      exact⟨_,he,fun v z=>by cases z⟩
    · rw[List.mem_singleton.mp z]
      exact⟨o,ho,fun v z=>by rw[d] at z;cases z⟩
  keep:=fun i h h' ht k=>by
    obtain⟨⟨old,he⟩,o,ho,r⟩:=ht
    exact⟨⟨old,k e (by simp) _ he⟩,o,k it (by simp) o ho,r⟩
  item:=by
    intro X hP hw hK hc i pins s σ H E I hf ht ⟨hi,hG⟩
    have hh:=I.ok.hd hc
    subst hP hw hK
    obtain⟨vs,rv,pl,hz⟩:=I.tuple hG
    have hlen:=rv.length
    have W:=WalksT.enumerateD (sD (prog:=X.prog) (w:=X.w) (A:=X.A.in1) hh it l li vs.toArray) e ne (by simp[ne,le.symm]) (by simp)
    refine W.item (i+1) s _ _ (by rw[List.size_toArray];omega) ⟨ht.1,i,rfl,ht.2,pl⟩ fun T cY h1 tk hv hT ht1 hm k1=>?_
    refine⟨_,rfl,W.go elts k pos (i+1) T _ _ _ hm fun h2 S2 k2=>?_⟩
    obtain⟨t,v,⟨i',ei,hx⟩,rfl⟩:=hv
    have ei':i'=i:=by omega
    subst ei'
    obtain⟨x,hx'⟩:=aH hi
    obtain⟨v',hv',rx⟩:=rv.get hx'
    have ev:v'=v:=by
      have:vs[i']?=some v:=by simpa using hx
      rw[hv'] at this
      exact Option.some.inj this
    subst ev
    have nT:T ∉ [e,it]:=W.apart (i' + 1) T _ hm
    have t2:IsTup h2 T [Value.int ((i':Int)+1) t,v'].toArray:=by
      rw[show (i':Int)+1=((i' + 1:Nat):Int) by omega]
      obtain⟨o,ho,c,m,d⟩:=ht1
      exact⟨o,k2 T o nT ho,c,m,by rw[d]⟩
    obtain⟨S2a,i2,e2,S2b,S2c⟩:=S2
    have e2':i2=i' + 1:=by omega
    subst e2'
    refine⟨.ref T,upd H T (.tup [.int ((i':Int)+1),x]),I.turnedT (wr:=[e,it]) (fun b o hb q=>k2 b o hb (k1 b o hb q)) hf hT (by show 2 <= sizeLine;decide) (.cons ⟨t,rfl⟩ (.cons rx .nil)) t2 (.inl ⟨_,List.mem_cons_self,fun _ z=>nomatch z⟩),rfl,⟨T,_,rfl,I.hok.fresh hT,⟨x,hx',rfl⟩,rfl⟩,⟨S2a,S2b⟩,fun b hb=>?_⟩
    have f:=(hf b hb).1
    have hb2:∃ o,s.heap.get? b=some o:=by
      obtain⟨⟨old,he⟩,o,ho,c,d⟩:=ht
      rcases List.mem_cons.mp hb with z | z
      · rw[z];exact⟨_,he⟩
      · rw[List.mem_singleton.mp z];exact⟨o,ho⟩
    obtain⟨o,ho⟩:=hb2
    have nb:b ≠ T:=fun z=>by
      subst z
      exact absurd (Nat.lt_of_lt_of_le (Heap.lt_size ho) hT) (Nat.lt_irrefl _)
    rw[av nb]
    exact f
  done:=by
    intro X hP hw hK hc i pins s σ H E I hf ht ⟨hi,hG⟩
    have hh:=I.ok.hd hc
    subst hP hw hK hi
    obtain⟨vs,rv,pl,hz⟩:=I.tuple hG
    have hlen:=rv.length
    have W:=WalksT.enumerateD (sD (prog:=X.prog) (w:=X.w) (A:=X.A.in1) hh it l li vs.toArray) e ne (by simp[ne,le.symm]) (by simp)
    have e1:vs.toArray.size=xs.length:=by rw[List.size_toArray];omega
    refine W.done s _ _ ?_ fun h1 tk k1=>⟨rfl,I.turnedL (wr:=[e,it]) k1 fun b hb=>hf b hb⟩
    rw[e1]
    exact⟨ht.1,_,rfl,ht.2,pl⟩
  self:=fun A i s Q E ht q=>by
    obtain⟨⟨old,he⟩,_⟩:=ht
    exact wpAny_pyIter_enum he q
section
variable {X:Cx} {elts:List Expr} {k:Nat} {tpos:Pos}
def yA (K:W.Frag) (te:TE):TI:=fun σ H R=>te σ H fun x H1=>∃ l xs,x=.ref l/\SqT K H1 l xs/\R (ItW xs.length (fun H=>SqT K H l xs) (yv xs)) H1
theorem wG {e:Expr} {te:TE} {p pos kp cp:Pos} {j:Nat} (hg:Gl X "enumerate") (hm:X.mg "enumerate" = none) (he:PE X e te) (hst:starEach [e] X.env=[(false,eval e X.env)]:=by rfl):PI X (.Tuple elts k tpos) (.Call (.Name "enumerate" p) [e] [⟨some "start",.Constant (.int 1) j cp,kp⟩] pos) (yA X.K te):=by
  intro pins s σ H R I h
  refine wpAny_Call_Name_kw (dg I hg hm boot_enumerate ?_)
  refine iN ?_ (by rw[hst];rfl) (by rw[hst];rfl) rfl rfl
  rw[hst]
  refine Calls.spliced_cons (thn (he pins s σ H _ I h) fun u s1 ⟨x,H1,I1,r1,l,xs,ex,hq,q⟩=>Calls.spliced_nil (kws_cons (wpAny_Constant_int (kws_nil ?_))))
  subst ex
  cases r1
  have I2:=I1.tok (s1.toks+1)
  obtain⟨vs,rv,pl,hz⟩:=I2.tuple hq
  have ll:l < s1.heap.objs.size:=let ⟨_,e,_⟩:=pl;Heap.lt_size e
  refine uV (s:={ s1 with toks:=s1.toks+1 }) pl fun h' he hi kp=>wpAny_pyIter_enum he ?_
  have I3:Inv X pins σ H1 { s1 with heap:=h',toks:=s1.toks+1 }:=I2.kept (t':=s1.toks+1) kp
  refine⟨s1.heap.objs.size+1,[s1.heap.objs.size+1,s1.heap.objs.size],_,_,H1,rfl,I3,pS xs (Nat.succ_ne_self _) (Nat.ne_of_lt (Nat.lt_succ_of_lt ll)) (Nat.ne_of_lt ll),⟨⟨_,he⟩,hi⟩,fun b hb=>?_,q⟩
  have hb':b=s1.heap.objs.size+1\/b=s1.heap.objs.size:=by simpa using hb
  rcases hb' with z | z <;> subst z
  · exact I1.fpOk (Nat.le_succ _) (I1.hok.fresh (Nat.le_succ _))
  · exact I1.fpOk (Nat.le_refl _) (I1.hok.fresh (Nat.le_refl _))
theorem ww {e:Expr} {te:TE} {p pos kp cp:Pos} {j:Nat} (hg:Gl X "enumerate") (hm:X.mg "enumerate" = none) (he:QE X e te) (hst:starEach [e] X.env=[(false,eval e X.env)]:=by rfl):QI X (.Tuple elts k tpos) (.Call (.Name "enumerate" p) [e] [⟨some "start",.Constant (.int 1) j cp,kp⟩] pos) (yA X.K te):=⟨wG hg hm he.h hst⟩
end
end L2
namespace L2
open PySem PySem.Spec PyProof.Rows
section
variable {X:Cx}
end
end L2
namespace L2
open PySem PySem.Spec PyProof.Rows
section
variable {prog:Program} {w:World} {A:Around} {E:Value->Shared->Prop} {s:Shared}
end
section
variable {X:Cx} {e:Expr} {te:TE} {p1 p2 q1 q2:Pos}
end
end L2
namespace TR
open PySem L2 TM
inductive Tr where
  | node (nm:Str) (mk:Int) (bs:List Tr)
noncomputable def Tr.nm:Tr->Str
  | .node n _ _=>n
noncomputable def Tr.mk':Tr->Int
  | .node _ m _=>m
noncomputable def Tr.bs:Tr->List Tr
  | .node _ _ b=>b
mutual
noncomputable def size:Tr->Nat
  | .node _ _ bs=>1+be bs
noncomputable def be:List Tr->Nat
  | []=>0
  | t::ts=>size t+be ts
end
mutual
noncomputable def kn:Tr->Nat
  | .node _ _ bs=>1+fB bs
noncomputable def fB:List Tr->Nat
  | []=>0
  | t::ts=>max (kn t) (fB ts)
end
mutual
def TrIs (H:Hp):Tr->V->Prop
  | .node nm mk bs,v=>∃ p b vs,v=.ref p/\H p=some (.tup [.str nm,.int mk,.ref b])/\H b=some (.tup vs)/\TrsIs H bs vs
def TrsIs (H:Hp):List Tr->List V->Prop
  | [],vs=>vs=[]
  | t::ts,vs=>∃ v r,vs=v::r/\TrIs H t v/\TrsIs H ts r
end
theorem mP {H:Hp}:∀ {ts:List Tr} {vs:List V},TrsIs H ts vs->L2R (TrIs H) ts vs
  | [],vs,h=>by unfold TrsIs at h;subst h;exact .nil
  | t::ts,vs,h=>by unfold TrsIs at h;obtain⟨v,r,rfl,h1,h2⟩:=h;exact .cons h1 (mP h2)
theorem rK {H:Hp}:∀ {ts:List Tr} {vs:List V},L2R (TrIs H) ts vs->TrsIs H ts vs
  | _,_,.nil=>by unfold TrsIs;rfl
  | _,_,.cons x y=>by unfold TrsIs;exact⟨_,_,rfl,x,rK y⟩
mutual
theorem TrIs.same {H H':Hp} (e:SameT H H'):∀ (t:Tr) {v:V},TrIs H t v->TrIs H' t v
  | .node nm mk bs,v,h=>by
    unfold TrIs at h ⊢
    obtain⟨p,b,vs,rfl,h1,h2,h3⟩:=h
    exact⟨p,b,vs,rfl,e _ _ h1,e _ _ h2,TrsIs.same e bs h3⟩
theorem TrsIs.same {H H':Hp} (e:SameT H H'):∀ (ts:List Tr) {vs:List V},TrsIs H ts vs->TrsIs H' ts vs
  | [],vs,h=>by unfold TrsIs at h ⊢;exact h
  | t::ts,vs,h=>by
    unfold TrsIs at h ⊢
    obtain⟨v,r,rfl,h1,h2⟩:=h
    exact⟨v,r,rfl,TrIs.same e t h1,TrsIs.same e ts h2⟩
end
theorem TrIs.op {H:Hp} {t:Tr} {v:V} (h:TrIs H t v):∃ p b vs,v=.ref p/\H p=some (.tup [.str t.nm,.int t.mk',.ref b])/\H b=some (.tup vs)/\L2R (TrIs H) t.bs vs:=by
  cases t with
  | node nm mk bs=>
    unfold TrIs at h
    obtain⟨p,b,vs,rfl,h1,h2,h3⟩:=h
    exact⟨p,b,vs,rfl,h1,h2,mP h3⟩
theorem TrIs.cl {H:Hp} {nm:Str} {mk:Int} {bs:List Tr} {p b:Addr} {vs:List V} (h1:H p=some (.tup [.str nm,.int mk,.ref b])) (h2:H b=some (.tup vs)) (h3:L2R (TrIs H) bs vs):TrIs H (.node nm mk bs) (.ref p):=by
  unfold TrIs
  exact⟨p,b,vs,rfl,h1,h2,rK h3⟩
theorem eS (t:Tr):size t=1+be t.bs:=by cases t;rw[size];rfl
theorem pk (t:Tr):kn t=1+fB t.bs:=by cases t;rw[kn];rfl
theorem ij:∀ {ts:List Tr} {t:Tr},t ∈ ts->size t <= be ts
  | [],_,h=>nomatch h
  | x::ts,t,h=>by
    unfold be
    rcases List.mem_cons.mp h with rfl | h
    · omega
    · have:=ij h;omega
theorem iI:∀ {ts:List Tr} {t:Tr},t ∈ ts->kn t <= fB ts
  | [],_,h=>nomatch h
  | x::ts,t,h=>by
    unfold fB
    rcases List.mem_cons.mp h with rfl | h
    · omega
    · have:=iI h;omega
theorem gv (t:Tr):1 <= size t:=by rw[eS];omega
theorem dS:∀ ts:List Tr,ts.length <= be ts
  | []=>Nat.zero_le _
  | t::ts=>by
    unfold be
    have:=dS ts
    have:=gv t
    rw[List.length_cons]
    omega
theorem sF {t:Tr} {k:Nat} (h:size t <= k):t.bs.length < k:=by
  have:=dS t.bs
  rw[eS] at h
  omega
theorem nk {t u:Tr} (h:u ∈ t.bs):size u < size t:=by
  have:=ij h
  rw[eS t]
  omega
theorem pq {t u:Tr} (h:u ∈ t.bs):kn u < kn t:=by
  have:=iI h
  rw[pk t]
  omega
mutual
theorem bV:∀ t:Tr,kn t <= size t
  | .node _ _ bs=>by rw[kn,size];have:=fA bs;omega
theorem fA:∀ ts:List Tr,fB ts <= be ts
  | []=>by rw[fB,be];exact Nat.le_refl _
  | t::ts=>by rw[fB,be];have:=bV t;have:=fA ts;omega
end
theorem fR:∀ (i:Nat) (ts:List Tr),be (ts.take i) <= be ts
  | 0,ts=>by rw[List.take_zero,be];exact Nat.zero_le _
  | i+1,[]=>by rw[List.take_nil];exact Nat.le_refl _
  | i+1,t::ts=>by rw[List.take_succ_cons,be,be];have:=fR i ts;omega
mutual
noncomputable def gA:Tr->List (List Int)
  | .node _ _ bs=>[]::bI 1 bs
noncomputable def bI (k:Int):List Tr->List (List Int)
  | []=>[]
  | t::ts=>(gA t).map (k::·)++bI (k+1) ts
end
theorem tV (t:Tr):gA t=[]::bI 1 t.bs:=by cases t;rw[gA];rfl
mutual
theorem gy:∀ t:Tr,(gA t).length=size t
  | .node _ _ bs=>by rw[gA,size,List.length_cons,eV bs];omega
theorem eV:∀ (ts:List Tr) {k:Int},(bI k ts).length=be ts
  | [],k=>by rw[bI,be];rfl
  | t::ts,k=>by rw[bI,be,List.length_append,List.length_map,gy t,eV ts]
end
theorem io:∀ (ts us:List Tr) (k:Int),bI k (ts++us)=bI k ts++bI (k+ts.length) us
  | [],us,k=>by rw[List.nil_append,bI];simp
  | t::ts,us,k=>by
    rw[List.cons_append,bI,bI,io ts us,List.append_assoc]
    have:k+1+(ts.length:Int)=k+((t::ts).length:Int):=by rw[List.length_cons];omega
    rw[this]
theorem lU (ts:List Tr) (t:Tr):bI 1 (ts++[t])=bI 1 ts++(gA t).map ((1+(ts.length:Int))::·):=by
  rw[io,bI,bI,List.append_nil]
mutual
theorem fS:∀ (t:Tr) {p:List Int},p ∈ gA t->p.length < kn t
  | .node _ _ bs,p,h=>by
    rw[gA] at h
    rw[kn]
    rcases List.mem_cons.mp h with rfl | h
    · show 0 < 1+fB bs
      omega
    · have:=eU bs h
      omega
theorem eU:∀ (ts:List Tr) {k:Int} {p:List Int},p ∈ bI k ts->p.length <= fB ts
  | [],k,p,h=>by rw[bI] at h;cases h
  | t::ts,k,p,h=>by
    rw[bI] at h
    rw[fB]
    rcases List.mem_append.mp h with h | h
    · obtain⟨q,hq,rfl⟩:=List.mem_map.mp h
      have:=fS t hq
      rw[List.length_cons]
      omega
    · have:=eU ts h
      omega
end
def PthIs (H:Hp) (p:List Int) (v:V):Prop:=∃ a,v=.ref a/\H a=some (.tup (p.map V.int))
theorem PthIs.same {H H':Hp} (e:SameT H H') {p:List Int} {v:V} (h:PthIs H p v):PthIs H' p v:=by
  obtain⟨a,x,y⟩:=h
  exact⟨a,x,e _ _ y⟩
noncomputable def atT:List Int->Tr->Option Tr
  | [],t=>some t
  | k::ks,t=>if 1 <= k then (t.bs[(k - 1).toNat]?).bind (atT ks) else none
theorem dO:∀ (p q:List Int) (t:Tr),atT (p++q) t=(atT p t).bind (atT q)
  | [],q,t=>rfl
  | k::p,q,t=>by
    rw[List.cons_append]
    unfold atT
    split
    · cases t.bs[(k - 1).toNat]? with
      | none=>rfl
      | some c=>exact dO p q c
    · rfl
theorem jz {p r:List Int} {t u:Tr} {k:Int} (h:atT p t=some u) (hk:k < 1\/(u.bs.length:Int) < k):atT (p++k::r) t=none:=by
  rw[dO,h]
  show atT (k::r) u=none
  unfold atT
  split
  · rw[List.getElem?_eq_none (by omega)]
    rfl
  · rfl
theorem dA {k:Int} {ks:List Int} {t u:Tr} (h:atT (k::ks) t=some u):1 <= k/\k <= t.bs.length/\∃ c,t.bs[(k - 1).toNat]?=some c/\c ∈ t.bs/\atT ks c=some u:=by
  unfold atT at h
  split at h
  · rename_i h1
    cases hc:t.bs[(k - 1).toNat]? with
    | none=>rw[hc] at h;cases h
    | some c=>
      rw[hc] at h
      have:=aD (xs:=t.bs) hc
      exact⟨h1,by omega,c,rfl,List.mem_of_getElem? hc,h⟩
  · cases h
theorem kr:∀ {p:List Int} {t u:Tr},atT p t=some u->size u <= size t
  | [],t,u,h=>by cases h;exact Nat.le_refl _
  | k::p,t,u,h=>by
    obtain⟨_,_,c,_,hm,h'⟩:=dA h
    have:=kr h'
    have:=nk hm
    omega
theorem dy:∀ {p:List Int} {t u:Tr},atT p t=some u->kn u+p.length <= kn t
  | [],t,u,h=>by cases h;exact Nat.le_refl _
  | k::p,t,u,h=>by
    obtain⟨_,_,c,_,hm,h'⟩:=dA h
    have:=dy h'
    have:=pq hm
    rw[List.length_cons]
    omega
noncomputable def cO (p:List Int):Int->List Tr->List (List Int × Tr)
  | _,[]=>[]
  | k,t::ts=>(p++[k],t)::cO p (k+1) ts
mutual
noncomputable def nds (p:List Int):Tr->List (List Int × Tr)
  | .node nm mk bs=>(p,.node nm mk bs)::iy p 1 bs
noncomputable def iy (p:List Int) (k:Int):List Tr->List (List Int × Tr)
  | []=>[]
  | t::ts=>nds (p++[k]) t++iy p (k+1) ts
end
theorem jX (p:List Int) (t:Tr):nds p t=(p,t)::iy p 1 t.bs:=by cases t;rw[nds];rfl
theorem jg (p:List Int):∀ (ts:List Tr) (k:Int),iy p k ts=(cO p k ts).flatMap fun x=>nds x.1 x.2
  | [],k=>by rw[iy,cO];rfl
  | t::ts,k=>by rw[iy,cO,List.flatMap_cons,jg p ts]
theorem iB (p:List Int):∀ (ts:List Tr) (k:Int),(cO p k ts).length=ts.length
  | [],k=>rfl
  | t::ts,k=>by rw[cO,List.length_cons,List.length_cons,iB p ts]
theorem fc (p:List Int):∀ (ts:List Tr) (k:Int) {i:Nat} {t:Tr},ts[i]?=some t->(cO p k ts)[i]?=some (p++[k+i],t)
  | [],k,i,t,h=>by simp at h
  | t'::ts,k,0,t,h=>by
    rw[cO]
    simp at h ⊢
    exact h
  | t'::ts,k,i+1,t,h=>by
    rw[cO,List.getElem?_cons_succ,fc p ts (k+1) (by simpa using h)]
    have:k+1+(i:Int)=k+((i+1:Nat):Int):=by omega
    rw[this]
mutual
theorem cU:∀ (t:Tr) {p:List Int},(nds p t).length=size t
  | .node _ _ bs,p=>by rw[nds,size,List.length_cons,jW bs];omega
theorem jW:∀ (ts:List Tr) {p:List Int} {k:Int},(iy p k ts).length=be ts
  | [],p,k=>by rw[iy,be];rfl
  | t::ts,p,k=>by rw[iy,be,List.length_append,cU t,jW ts]
end
mutual
theorem om:∀ (t:Tr) (p:List Int),(nds p t).map Prod.fst=(gA t).map (p++·)
  | .node _ _ bs,p=>by rw[nds,gA,List.map_cons,List.map_cons,jV bs,List.append_nil]
theorem jV:∀ (ts:List Tr) (p:List Int) (k:Int),(iy p k ts).map Prod.fst=(bI k ts).map (p++·)
  | [],p,k=>by rw[iy,bI];rfl
  | t::ts,p,k=>by
    rw[iy,bI,List.map_append,List.map_append,om t,jV ts,List.map_map]
    congr 1
    apply List.map_congr_left
    intro q _
    simp
end
theorem oq (t:Tr):(nds [] t).map Prod.fst=gA t:=by
  rw[om]
  have:(fun q:List Int=>[]++q)=id:=funext fun q=>rfl
  rw[this,List.map_id]
mutual
theorem oo:∀ (t:Tr) {p q:List Int} {u:Tr},(q,u) ∈ nds p t->∃ r,q=p++r/\atT r t=some u
  | .node nm mk bs,p,q,u,h=>by
    rw[nds] at h
    rcases List.mem_cons.mp h with h | h
    · cases h
      exact⟨[],by simp,rfl⟩
    · obtain⟨j,c,r,hc,e,h'⟩:=ol bs h
      refine⟨(1+(j:Int))::r,e,?_⟩
      unfold atT
      rw[if_pos (by omega)]
      have:((1:Int)+j - 1).toNat=j:=by omega
      rw[this]
      show (bs[j]?).bind _=_
      rw[hc]
      exact h'
theorem ol:∀ (ts:List Tr) {p q:List Int} {u:Tr} {k:Int},(q,u) ∈ iy p k ts->∃ (j:Nat) (c:Tr) (r:List Int),ts[j]?=some c/\q=p++(k+j)::r/\atT r c=some u
  | [],p,q,u,k,h=>by rw[iy] at h;cases h
  | t::ts,p,q,u,k,h=>by
    rw[iy] at h
    rcases List.mem_append.mp h with h | h
    · obtain⟨r,e,h'⟩:=oo t h
      exact⟨0,t,r,rfl,by rw[e];simp,h'⟩
    · obtain⟨j,c,r,hc,e,h'⟩:=ol ts h
      refine⟨j+1,c,r,by simpa using hc,?_,h'⟩
      rw[e]
      have:k+1+(j:Int)=k+((j+1:Nat):Int):=by omega
      rw[this]
end
def NdIs (H:Hp) (x:List Int × Tr) (v:V):Prop:=∃ a b u,v=.ref a/\H a=some (.tup [.ref b,u])/\H b=some (.tup (x.1.map V.int))/\TrIs H x.2 u
theorem NdIs.same {H H':Hp} (e:SameT H H') {x:List Int × Tr} {v:V} (h:NdIs H x v):NdIs H' x v:=by
  obtain⟨a,b,u,h1,h2,h3,h4⟩:=h
  exact⟨a,b,u,h1,e _ _ h2,e _ _ h3,TrIs.same e _ h4⟩
section
variable {most n:Nat} {R:Nat->Rw} {tr:Nat->Tr}
end
end TR
namespace L2
open PySem PySem.Spec PyProof.Rows
section
variable {X:Cx} {C a:Addr} {cls a0 fl fl':Value} {H':Hp} {B h':Heap} {s':Shared}
end
section
variable {P:Program} {w:World} {K:W.Frag} {mg:Str->Option Value} {base:Heap} {N:List Str} {qual:Str} {scope:Scope} {f:Addr} {cd:Value} {A:Around} {outer:List Env} {s₀:Shared} {H₀:Hp} {E:XK}
end
end L2
namespace L2
open PySem PySem.Spec PyProof.Rows
section
variable {X:Cx} {k:Nat} {f Dc:Addr} {fd:FuncData} {ps:List Str} {sp:Sp} {x dn n y:Str} {i j:Nat} {p cpos epos np hpos pos yp:Pos} {e:Expr} {es:List Expr} {t:TA} {ts:TS} {b0:Stmt} {suite:List Stmt}
end
end L2
namespace L2
open PySem PySem.Spec PyProof.Rows
namespace Det
variable {α β:Type}
end Det
section
variable {M:Model} {A:Around} {E:Value->Shared->Prop} {s:Shared}
end
section
variable {P:Program} {w:World} {K:W.Frag} {mg:Str->Option Value} {base:Heap} {N:List Str} {qual:Str} {scope:Scope} {f:Addr} {cd:Value} {A:Around} {outer:List Env} {s₀:Shared} {H₀:Hp} {E:XK}
end
section
variable {prog:Program} {w:World} {A:Around} {E:Value->Shared->Prop} {s:Shared} {env:Env}
variable {nm q:Str} {C N:Addr} {bs bm bmB:List Value} {hdc:Bool} {sn:List Str} {sbc:List Value} {ab:Bool} {clt:Option Bool} {dd:Option Addr} {k0 k1 k2 k3 k5:Option Value} {B newId initId:String}
end
section
variable {X:Cx} {pins:List (Addr × Obj)} {σ:St} {H H':Hp} {s s':Shared} {M:Model} {E':Value->Shared->Prop} {a:Addr} {cls:Value}
end
section
variable {P:Program} {w:World} {K:W.Frag} {mg:Str->Option Value} {base:Heap} {N:List Str} {qual:Str} {scope:Scope} {f:Addr} {cd:Value} {A:Around} {outer:List Env} {s₀:Shared} {H₀:Hp} {E:XK}
end
section
variable {X:Cx} {k:Nat} {f Dc C2:Addr} {fd:FuncData} {ps:List Str} {sp:Sp} {x dn cn:Str} {p cpos epos np hpos pos cnp cpos2 rpos2 kp:Pos} {ck:Nat} {e e2:Expr} {es es2:List Expr} {t t2:TA} {EX:Hp->Prop}
end
section
variable {P:Program} {w:World} {K:W.Frag} {mg:Str->Option Value} {base:Heap}
end
end L2
namespace L2
open PySem PySem.Spec PyProof.Rows
end L2
namespace TM
open PySem L2
end TM
namespace L2
open PySem PySem.Spec PyProof.Rows TM
section
variable {X:Cx} {K:W.Frag} {e:Expr} {te:TE} {p1 p2 q1 q2:Pos}
end
section
variable {K:W.Frag} {a:Addr} {xs:List V} {js:List Nat} {te:TE} {σ:St} {Q:VK} {D:Addr} {H1:Hp} {α:Type} {R:Hp->α->V->Prop} {as:List α}
end
end L2
namespace L2
open PySem PySem.Spec PyProof.Rows
theorem dm {X:Cx} {pos:Pos} {k v:Expr} {ks:List (Option Expr)} {vs:List Expr} {tk tv:TE} {trs:List (TE × TE)} (hk:QE X k tk) (hv:QE X v tv) (hr:PPs X pos ks vs trs):PPs X pos (some k::ks) (v::vs) ((tk,tv)::trs):=qp hk.h hv.h hr
theorem nO {X:Cx} {pos:Pos} {keys:List (Option Expr)} {values:List Expr} {trs:List (TE × TE)} (h:PPs X pos keys values trs) (hall:keys.all (·.isSome)=true:=by rfl) (hl:keys.length=values.length:=by rfl) (h0:keys ≠ []:=by simp) (h15:keys.length <= 15:=by decide):QE X (.Dict keys values pos) (vF trs):=⟨uc h hall hl h0 h15⟩
end L2
namespace L2
open PySem PySem.Spec PyProof.Rows
section
variable {P:Program} {w:World} {A:Around} {E:Value->Shared->Prop} {s:Shared} {it d:Addr} {o:Obj} {es:Array DictEntry} {i n ep:Nat} {ok ov:Value}
end
section
variable {P:Program} {w:World} {K:W.Frag} {elts:List Expr} {k:Nat} {tpos:Pos}
end
section
variable {X:Cx} {elts:List Expr} {k:Nat} {tpos:Pos} {e:Expr} {te:TE} {apos cpos:Pos}
end
section
variable {X:Cx} {e:Expr} {te:TE} {apos cpos:Pos}
end
end L2
namespace L2
open PySem PySem.Spec PyProof.Rows
section
variable {prog:Program} {w:World} {A:Around} {E:Value->Shared->Prop} {s:Shared}
end
section
variable {X:Cx} {e:Expr} {te:TE} {p1 p2 q1 q2:Pos}
end
section
variable {X:Cx}
end
end L2
namespace L2
open PySem PySem.Spec PyProof.Rows TM
section
variable {K:W.Frag} {a:Addr} {xs:List V} {js:List Nat} {g:TG} {n:Nat} {te:TE} {σ:St} {Q:VK} {D:Addr} {H1:Hp} {α:Type} {R:Hp->α->V->Prop} {as:List α}
theorem ml (st:OffD D R) (hz:xs.length < sizeLine) (hlen:as.length=xs.length) (ha:SqT K H1 a xs) (hD:H1 D=none)
    (he:∀ (i:Nat) (x:V) (b:α) (H:Hp),xs[i]?=some x->as[i]?=some b->Same H1 H->∀ Q':VK,(∀ y H',Same H H'->R H' b y->Q' y H')->g x (List.replicate n none++bh js σ) H fun σ6 H6=>∃ us:List (Option V),us.length=n/\σ6=us++bh js σ/\te σ6 H6 Q')
    (hq:∀ ys H',Same H1 H'->H' D=some (.lst ys)->L2R (R H') as ys->Q (.ref D) H'):pL (Itt K a) g n js tYes te σ Q D H1:=by
  refine⟨fun i m acc H=>m=xs.length - i/\i <= xs.length/\Same H1 H/\H D=some (.lst acc)/\L2R (R H) (as.take i) acc,⟨xs.length,by simp,Nat.zero_le _,ac hD _,aa,.nil⟩,?_⟩
  rintro i m acc H ⟨hm,hi,s,d,r⟩
  refine⟨d,by rw[r.len,List.length_take];omega,?_⟩
  by_cases hlt:i < xs.length
  · refine .inr ⟨?_,fun x H' y=>?_⟩
    · obtain⟨x,hx⟩:=aH hlt
      exact⟨xs,x,Same.tupS s ha,hx⟩
    · obtain⟨rfl,hx⟩:=y
      have hx':=hx xs (Same.tupS s ha)
      obtain⟨b,hb⟩:=aH (xs:=as) (i:=i) (by omega)
      refine he i x b H' hx' hb s _ fun y H4 s4 r4=>⟨s4 _ _ d,xs.length - (i+1),by omega,rfl,hlt,aN hD (s.trans s4),aa,?_⟩
      have k:∀ c o,c ≠ D->H4 c=some o->upd H4 D (.lst (acc++[y])) c=some o:=fun c o hc e=>by rw[av hc];exact e
      rw[aJ hb]
      exact (r.imp fun b v r=>st _ _ _ b v (s4 _ _ d) k (st _ _ _ b v d (fun c o _ e=>s4 c o e) r)).snoc (st _ _ _ b y (s4 _ _ d) k r4)
  · rw[List.take_of_length_le (by omega)] at r
    exact .inl ⟨⟨xs,Same.tupS s ha,by omega⟩,hq acc H s d r⟩
end
end L2
namespace L2
open PySem PySem.Spec PyProof.Rows
section
variable {P:Program} {w:World} {A:Around} {E:Value->Shared->Prop} {s:Shared}
end
section
variable {X:Cx} {e:Expr} {te:TE} {p1 p2 q1 q2:Pos}
end
end L2
namespace L2
open PySem PySem.Spec PyProof.Rows
theorem iG:entryFor table "dict.update.loop" = some Builtin.«dict.update.loop»:=entryFor_of_tree (by kernel_rfl)
theorem dU:plainId "dict.update.loop" = true:=by decide +kernel
structure PrE where
  at_:Addr
  key:Key
  kv:Value
  val:Value
def PrIn (h:Heap) (x:PrE):Prop:=∃ o n,h.get? x.at_=some o/\o.cls=.type "tuple"/\o.data=.seq #[x.kv,x.val] n
theorem PrIn.to {h h':Heap} {x:PrE} (p:PrIn h x) (k:∀ o,h.get? x.at_=some o->h'.get? x.at_=some o):PrIn h' x:=let ⟨o,n,e,r⟩:=p;⟨o,n,k _ e,r⟩
noncomputable def ku (kvs:List (Key × Value)) (ps:List PrE):List (Key × Value):=ps.foldl (fun acc x=>stored acc x.key x.val) kvs
theorem kC (kvs:List (Key × Value)) (k:Key) (v:Value):(stored kvs k v).length <= kvs.length+1:=by
  unfold stored
  split
  · rw[List.length_map];omega
  · rw[List.length_append];exact Nat.le_refl _
section
variable {P:Program} {w:World} {A:Around} {E:Value->Shared->Prop}
theorem uX {R:Result->Shared->Prop} {I:Addr} {fp wr:List Addr} {G:Array GenState->Array GenState->Prop} {n:Nat} {V':Nat->Value->Prop} {St:Nat->Shared->Prop}
    (W:WalksS P w A.in1 I fp wr G n V' St) (S:Addr) (nS:S ∉ fp) (ps:List PrE) (lp:ps.length=n) (hn:n <= 1000)
    (hv:∀ i v,V' i v->∃ x,ps[i]?=some x/\v=.ref x.at_) (hk:∀ x ∈ ps,(aU P w).is x.key x.kv=true/\x.at_ ≠ S/\x.at_ ∉ wr) :
    ∀ (k i:Nat) (s:Shared) (kvs:List (Key × Value)) (j:Int),n - i=k->i <= n->St i s->s.heap.DictOf (aU P w) S kvs->kvs.length <= i->(∀ x ∈ ps,PrIn s.heap x) ->
      (∀ s',Moved (S::wr) G s s'->s'.heap.DictOf (aU P w) S (ku kvs (ps.drop i))->R (.ok (.ret .none)) s') ->
      codeAny (model P w) A (.builtin "dict.update.loop" ⟨[.ref S,.ref I,rawInt j,.none],[]⟩) R s:=by
  have nW:S ∉ wr:=fun h=>nS (W.sub _ h)
  have sub:∀ b ∈ wr,b ∈ S::wr:=fun b hb=>.tail _ hb
  intro k
  induction k with
  | zero=>
    intro i s kvs j hk' hi st hS lk hp hR
    obtain rfl:i=n:=by omega
    refine codeAny_builtin iG ?_
    rw[Around.under_plainId dU _]
    show wpAny _ _ (pyNext (.ref I) >>= _) _ _ _
    refine wpAny_bind (W.done s _ _ st fun s' mv=>?_)
    have hS1:s'.heap.DictOf (aU P w) S kvs:=let ⟨o,es,ep,e,r⟩:=hS;⟨o,es,ep,mv.heap S o nW e,r⟩
    rw[List.drop_of_length_le (by omega)] at hR
    exact wpAny_bind (wpAny_pure (wpAny_pure (hR s' (mv.mono sub) hS1)))
  | succ k ih=>
    intro i s kvs j hk' hi st hS lk hp hR
    refine codeAny_builtin iG ?_
    rw[Around.under_plainId dU _]
    show wpAny _ _ (pyNext (.ref I) >>= _) _ _ _
    refine wpAny_bind (W.item i s _ _ (by omega) st fun v s' pv st' mv=>?_)
    obtain⟨x,hx,rfl⟩:=hv i v pv
    have xm:=List.mem_of_getElem? hx
    obtain⟨hkx,nxS,nxW⟩:=hk x xm
    have hS1:s'.heap.DictOf (aU P w) S kvs:=let ⟨o,es,ep,e,r⟩:=hS;⟨o,es,ep,mv.heap S o nW e,r⟩
    have hp1:∀ x ∈ ps,PrIn s'.heap x:=fun y hy=>(hp y hy).to fun o e=>mv.heap _ o (hk y hy).2.2 e
    obtain⟨o,m,e1,e2,e3⟩:=hp1 x xm
    have tx:s'.TypeIs (.ref x.at_) "tuple":=⟨o,e1,e2⟩
    show wpAny _ _ (holding [Value.ref x.at_] _ >>= _) _ _ _
    refine wpAny_bind (wpAny_holding (wpAny_bind (wpAny_tryCatch ?_)))
    unfold Builtin.Dict.pairItems
    refine wpAny_bind (wpAny_typeOf tx ?_)
    rw[if_pos (by decide)]
    refine wpAny_bind (wpAny_seqItems e1 e3 (wpAny_pure ?_))
    show wpAny _ _ (holding [x.kv,x.val] (dictSet S x.kv x.val)) _ _ _
    refine wpAny_holding (wpAny_dictSet_pairs (hsz:=Nat.le_trans (show kvs.length <= 1000 by omega) (by decide)) hkx hS1 fun h' hS2 sb=>?_)
    have ed:ps.drop i=x::ps.drop (i+1):=by
      obtain⟨hl,hxe⟩:=List.getElem?_eq_some_iff.mp hx
      rw[List.drop_eq_getElem_cons hl,hxe]
    refine wpAny_pure ⟨plainId_quiet dU _,ih (i+1) _ (stored kvs x.key x.val) (j+1) (by omega) (by omega) (W.frame _ s' _ _ st' (Nat.le_succ _) fun b hb o e=>?_) hS2 (by have:=kC kvs x.key x.val;omega) (fun y hy=>(hp1 y hy).to fun o e=>(sb.2 _ (hk y hy).2.1).trans e) fun s2 mv2 hS4=>?_⟩
    · exact (sb.2 b fun z=>nS (z ▸ hb)).trans e
    · refine hR s2 (Moved.trans W.gtrans ((mv.mono sub).then_heap (Nat.le_succ _) fun b o hb e=>(sb.2 b fun z=>hb (z ▸ .head _)).trans e) mv2) ?_
      rw[ed]
      exact hS4
end
end L2
namespace L2
open PySem PySem.Spec PyProof.Rows
theorem gq:typeLookup (.type "tuple") "keys" = pure none:=by rw[typeLookup_type,builtinLookup_eq_fast];kernel_rfl
theorem kB {prog:Program} {w:World} {A:Around} {E:Value->Shared->Prop} {s:Shared} {a:Addr} {o:Obj} {xs:Array Value} {k:Nat} {Q:Option Value->Shared->Prop}
    (hx:s.heap.get? a=some o) (hc:o.cls=.type "tuple") (hdat:o.data=.seq xs k) (hd:o.dict=none) (hA:A.handled=none)
    (q:∀ h' tk,(∀ b u,s.heap.get? b=some u->h'.get? b=some u)->Q none { s with heap:=h',toks:=tk }) :
    wpAny (model prog w) A (getAttr? (.ref a) "keys") Q E s:=by
  obtain⟨c,dct,dat,sl⟩:=o
  simp only at hc hdat hd
  subst hc hdat hd
  obtain⟨hp,g,d,tk,os⟩:=s
  have hT:∀ tk',(⟨hp,g,d,tk',os⟩ : Shared).TypeIs (.ref a) "tuple":=fun _=>⟨_,hx,rfl⟩
  have f1:=sub_AttributeError
  have f3:=F.slot_tuple_getattribute.lookup
  have f4:=F.slot_tuple_getattribute.bind (.ref a)
  have f5:=am_tuple_getattr_none
  unfold getAttr? getAttrBy? getAttrBy
  repeat (any_goals (first | assumption | exact hT _ | ((with_reducible show wpAny _ _ (call (Value.builtin "tuple.__getattribute__") _ _) _ _ _);refine call_meets F.slot_tuple_getattribute (hT _) am_entry_tuple_getattribute (F.args_tuple_getattribute_2 _ _) (meets_getattribute_miss_tuple a xs k sl "keys" _ gq (by decide) (by decide)) ⟨hx,hA,fun h' tk' e hx'=>?_⟩) | wp_step))
  obtain⟨t',u',he⟩:=hx'.there
  show wpAny _ _ (getattributeRaised _ _ _ _ _ _ _) _ _ _
  unfold getattributeRaised
  repeat (any_goals (first | assumption | wp_step))
  exact q _ _ hx'.keeps
end L2
namespace L2
open PySem PySem.Spec PyProof.Rows
section
variable {prog:Program} {w:World} {A:Around} {E:Value->Shared->Prop} {s:Shared}
abbrev xi:Obj:={ cls:=.type "dict",data:=.dict #[] }
theorem mw {t:Addr} {o:Obj} {items:Array Value} {m:Nat} {ps:List PrE} {Q:Value->Shared->Prop} (hh:A.handled=none) (ht:s.heap.get? t=some o) (hc:o.cls=.type "tuple") (hd:o.data=.seq items m) (hn:o.dict=none) (lp:ps.length=items.size) (h1:items.size <= 1000)
    (hi:∀ (i:Nat) v,items[i]?=some v->∃ x,ps[i]?=some x/\v=.ref x.at_) (hk:∀ x ∈ ps,(aU prog w).is x.key x.kv=true) (hp:∀ x ∈ ps,PrIn s.heap x)
    (q:∀ h' tk,h'.DictOf (aU prog w) s.heap.objs.size (ku [] ps)->(∀ b u,s.heap.get? b=some u->h'.get? b=some u)->Q (.ref s.heap.objs.size) { s with heap:=h',toks:=tk }) :
    wpAny (model prog w) A (call (.type "dict") [.ref t]) Q E s:=by
  refine callType_codes (Q₁:=fun obj sx=>obj=.ref s.heap.objs.size/\sx={ s with heap:=s.heap.push xi }) F.kt_called_dict (F.kt_typeCall_dict_1 _) F.entry_dict_init (kt_code_dict_new _ ⟨rfl,rfl⟩) ?_
  rintro obj sx ⟨rfl,rfl⟩
  have new:(s.heap.push xi).DictOf (aU prog w) s.heap.objs.size []:=Heap.DictOf.new s.heap
  have ht1:(s.heap.push xi).get? t=some o:=Heap.get?_push_of_some _ ht
  refine⟨new.typeIs,F.args_dict_init_2 _ _,?_⟩
  unfold Builtin.«dict.__init__» Builtin.Dict.selfAndRest
  refine wpAny_bind (wpAny_bind (wpAny_notOrdered_dict new.typeIs ?_))
  show wpAny _ _ (pure (s.heap.objs.size,[Value.ref t])) _ _ _
  refine wpAny_pure ?_
  show wpAny _ _ (Builtin.Dict.updateFrom "dict.__init__" s.heap.objs.size (.ref t) [] .none) _ _ _
  unfold Builtin.Dict.updateFrom
  refine wpAny_bind (wpAny_typeOf (s:={ s with heap:=s.heap.push xi }) (T:="tuple") ⟨o,ht1,hc⟩ ?_)
  rw[if_pos (by decide)]
  refine wpAny_bind (kB (s:={ s with heap:=s.heap.push xi }) ht1 hc hd hn (by simp[hh]) fun h' tk kp=>?_)
  rw[if_pos (show (none:Option Value).isNone=true from rfl)]
  have ht2:h'.get? t=some o:=kp _ _ ht1
  have hS2:h'.DictOf (aU prog w) s.heap.objs.size []:=let ⟨o',es,ep,e,r⟩:=new;⟨o',es,ep,kp _ _ e,r⟩
  have lS:s.heap.objs.size < h'.objs.size:=let ⟨_,_,_,e,_⟩:=hS2;Heap.lt_size e
  have lt:t < s.heap.objs.size:=Heap.lt_size ht
  refine wpAny_bind (wpAny_rule (wpAny_bind (wpAny_pyIter_tuple (items:=items) ⟨o,ht2,hc,m,hd⟩ (wpAny_pure ⟨plainId_quiet dU _,?_⟩))))
  have nI:t ≠ h'.objs.size:=Nat.ne_of_lt (Nat.lt_trans lt lS)
  have at_lt:∀ x ∈ ps,x.at_ < s.heap.objs.size:=fun x hx=>let ⟨_,_,e,_⟩:=hp x hx;Heap.lt_size e
  refine uX (A:=A.in1) ((Walks.tuple (show A.in1.in1.handled=none by simp[hh]) h'.objs.size t nI items).toS) s.heap.objs.size (by simp;exact⟨Nat.ne_of_lt lS,Nat.ne_of_gt lt⟩) ps lp h1 hi (fun x hx=>⟨hk x hx,Nat.ne_of_lt (at_lt x hx),by simp;exact Nat.ne_of_lt (Nat.lt_trans (at_lt x hx) lS)⟩) (items.size - 0) 0 _ [] 0 rfl (Nat.zero_le _) ⟨⟨_,Heap.get?_push_size _ rfl,rfl,rfl⟩,o,Heap.get?_push_of_some _ ht2,hc,m,hd⟩ (hS2.push _) (Nat.le_refl _) (fun x hx=>(hp x hx).to fun o e=>Heap.get?_push_of_some _ (kp _ _ (Heap.get?_push_of_some _ e))) fun s' mv dd=>?_
  obtain⟨h2,g2,d2,tk2,os2⟩:=s'
  obtain rfl:g2=s.gens:=mv.gens
  obtain rfl:d2=s.drawn:=mv.drawn
  obtain rfl:os2=s.os:=mv.os
  refine⟨rfl,q h2 tk2 dd fun b u e=>mv.heap b u ?_ (Heap.get?_push_of_some _ (kp _ _ (Heap.get?_push_of_some _ e)))⟩
  have lb:=Heap.lt_size e
  simp only[List.mem_cons,List.mem_singleton,List.not_mem_nil,or_false,not_or]
  exact⟨Nat.ne_of_lt lb,Nat.ne_of_lt (Nat.lt_trans lb lS)⟩
end
end L2
namespace L2
open PySem PySem.Spec PyProof.Rows
section
variable {prog:Program} {w:World} {K N:Type} [DecidableEq K] [DecidableEq N] (κ:HeapKind prog w K) (ν:KeyKind prog w N)
def IsPair (h:Heap) (k:K × N) (a:Addr):Prop:=∃ o b v n,h.get? a=some o/\o.cls=.type "tuple"/\o.data=.seq #[.ref b,v] n/\κ.is h k.1 b/\ν.is k.2 v=true
noncomputable def gD (k:K × N):Int:=reduceHash (Builtin.Tuple.tupleHashOf [κ.hash k.1,ν.hash k.2])
variable {κ ν}
theorem IsPair.typeIs {s:Shared} {k:K × N} {a:Addr} (x:IsPair κ ν s.heap k a):s.TypeIs (.ref a) "tuple":=let ⟨o,_,_,_,ho,hc,_⟩:=x;⟨o,ho,hc⟩
theorem IsPair.inj {h:Heap} {a:Addr} {x y:K × N} (hx:IsPair κ ν h x a) (hy:IsPair κ ν h y a):x=y:=by
  obtain⟨o,b,v,n,e1,_,d1,k1,n1⟩:=hx
  obtain⟨o',b',v',n',e2,_,d2,k2,n2⟩:=hy
  rw[e1] at e2
  cases e2
  rw[d1] at d2
  cases d2
  exact Prod.ext (κ.inj k1 k2) (ν.inj _ _ _ n1 n2)
theorem IsPair.keeps {h h':Heap} {k:K × N} {a d:Addr} {o:Obj} {es ep} (x:IsPair κ ν h k a) (ho:h.get? d=some o) (hd:o.data=.dict es ep) (hs:Heap.SameBut d h h'):IsPair κ ν h' k a:=by
  obtain⟨o',b,v,n,e1,c1,d1,k1,n1⟩:=x
  refine⟨o',b,v,n,(hs.2 a fun z=>?_).trans e1,c1,d1,κ.keeps k1 ho hd hs,n1⟩
  rw[z,ho] at e1
  cases e1
  rw[hd] at d1
  cases d1
variable {A:Around} {E:Value->Shared->Prop} {s:Shared}
theorem jc {k:K × N} {a:Addr} {Q:Int->Shared->Prop} (hu:A.units+64 < cLine) (hr:∀ A':Around,A'.units <= A.units+16->κ.room A') (x:IsPair κ ν s.heap k a) (q:Q (gD κ ν k) { s with toks:=s.toks+(κ.draws k.1+2) }) :
    wpAny (model prog w) A (pyHash (.ref a)) Q E s:=by
  have ty:=x.typeIs
  obtain⟨o,b,v,n,e1,_,d1,k1,n1⟩:=x
  unfold pyHash
  first | unfold pyHashByItsType | skip
  first | refine wpAny_bind (wpAny_cRoomFor_or (.inr (by omega)) ?_) | skip
  refine wpAny_bind (wpAny_specialOf ty F.slot_tuple_hash.lookup ?_)
  show wpAny _ _ (if (some (Value.builtin "tuple.__hash__") == some Value.none)=true then _ else _) Q E s
  rw[if_neg (by rw[beq_builtin_none];exact Bool.false_ne_true)]
  refine wpAny_bind (wpAny_specialOf ty F.slot_tuple_hash.lookup ?_)
  show wpAny _ _ (callSpecialIfBoundUnlessNone? (.ref a) "__hash__" _ >>= _) Q E s
  refine wpAny_bind (wpAny_callSpecialIfBoundUnlessNone?_slot ty F.slot_tuple_hash (wpAny_call_entry F.slot_tuple_hash ty F.entry_tuple_hash ?_ (F.args_tuple_hash_1 _)))
  show wpAny _ _ (Builtin.Tuple.tupleItemsOf (.ref a) >>= _) _ _ s
  refine wpAny_bind (wpAny_tupleItemsOf e1 d1 (wpAny_bind ?_))
  rw[<- Array.forIn_toList]
  show wpAny _ _ (forIn [Value.ref b,v] _ _) _ _ _
  rw[List.forIn_cons]
  refine wpAny_bind (wpAny_bind (κ.pyHash (hr _ (by show A.in1.units <= _;first | exact Nat.le_add_right _ _ | (unfold Around.in1;dsimp only;omega))) k1 (wpAny_pure ?_)))
  dsimp only
  rw[List.forIn_cons]
  refine wpAny_bind (wpAny_bind (ν.pyHash n1 (wpAny_pure ?_)))
  dsimp only
  rw[List.forIn_nil]
  refine wpAny_pure ?_
  show wpAny _ _ (retInt (Builtin.Tuple.tupleHashOf [κ.hash k.1,ν.hash k.2])) _ _ _
  refine wpAny_ret_mkInt ?_
  unfold gD reduceHash at q
  generalize Builtin.Tuple.tupleHashOf [κ.hash k.1,ν.hash k.2]=z at q ⊢
  show wpAny _ _ (if (decide (-(2:Int) ^ 63 <= z) && decide (z < 2 ^ 63))=true then _ else _) Q E _
  split at q
  · rename_i hz
    rw[if_pos hz]
    exact wpAny_pure (by simpa [Nat.add_assoc] using q)
  · rename_i hz
    rw[if_neg hz]
    exact wpAny_bind (wpAny_rule (wpAny_pure (by simpa [Nat.add_assoc] using q)))
theorem ue {x y:K × N} {a b:Addr} {P:Fin->Shared->Prop} (hr:κ.room A) (hx:IsPair κ ν s.heap x a) (hy:IsPair κ ν s.heap y b) (q:P (.done (.ret (.bool (decide (x=y))))) s) :
    wpAny (model prog w) A (Builtin.«tuple.__eq__» ⟨[.ref a,.ref b],[]⟩) P E s:=by
  have ty:=hy.typeIs
  obtain⟨oa,ba,va,na,e1,_,d1,k1,n1⟩:=hx
  obtain⟨ob,bb,vb,nb,e2,_,d2,k2,n2⟩:=hy
  show wpAny _ _ (isInstance (.ref b) (.type "tuple") >>= _) _ _ s
  refine wpAny_bind (wpAny_isInstance ty isSubtype_tuple_tuple ?_)
  simp only[Bool.not_true,Bool.false_eq_true,if_false]
  refine wpAny_bind (wpAny_tupleItemsOf e1 d1 (wpAny_bind (wpAny_tupleItemsOf e2 d2 (wpAny_bind ?_))))
  show wpAny _ _ (forIn [(Value.ref ba,Value.ref bb),(va,vb)] _ _) _ _ _
  have out:∀ c:Bool,c=decide (x=y)->P (.done (.ret (.bool c))) s:=fun c e=>by rw[e];exact q
  rw[List.forIn_cons]
  refine wpAny_bind (wpAny_bind (κ.eqBool hr k1 k2 ?_))
  by_cases h1:x.1=y.1
  · rw[decide_eq_true h1]
    simp only[Bool.not_true,Bool.false_eq_true,if_false]
    refine wpAny_pure ?_
    dsimp only
    rw[List.forIn_cons]
    refine wpAny_bind (wpAny_bind (ν.eqBool n1 n2 ?_))
    by_cases h2:x.2=y.2
    · rw[decide_eq_true h2]
      simp only[Bool.not_true,Bool.false_eq_true,if_false]
      refine wpAny_pure ?_
      dsimp only
      rw[List.forIn_nil]
      exact wpAny_pure (wpAny_pure (out true (decide_eq_true (Prod.ext h1 h2)).symm))
    · rw[decide_eq_false h2]
      simp only[Bool.not_false,if_true]
      exact wpAny_bind (wpAny_pure (wpAny_pure (wpAny_pure (wpAny_pure (out false (decide_eq_false fun z=>h2 (by rw[z])).symm)))))
  · rw[decide_eq_false h1]
    simp only[Bool.not_false,if_true]
    exact wpAny_bind (wpAny_pure (wpAny_pure (wpAny_pure (wpAny_pure (out false (decide_eq_false fun z=>h1 (by rw[z])).symm)))))
theorem jv {x y:K × N} {a b:Addr} {Q:Bool->Shared->Prop} (hu:A.units+64 < cLine) (hr:∀ A':Around,A'.units <= A.units+16->κ.room A') (hx:IsPair κ ν s.heap x a) (hy:IsPair κ ν s.heap y b) (q:Q (decide (x=y)) s) :
    wpAny (model prog w) A (eqBool (.ref a) (.ref b)) Q E s:=by
  unfold eqBool
  try with_reducible refine wpAny_holding ?_
  show wpAny _ _ (if (Value.ref a == Value.ref b)=true then _ else _) Q E s
  by_cases hab:(Value.ref a == Value.ref b)=true
  · rw[if_pos hab]
    have e:=eq_of_beq hab
    cases e
    have e:=hx.inj hy
    cases e
    exact wpAny_bind (wpAny_rule (wpAny_pure (by simpa using q)))
  · rw[if_neg hab]
    exact wpAny_bind (wpAny_richCompare_same_room (op:=.Eq) hx.typeIs hy.typeIs F.slot_tuple_eq (wpAny_call_entry F.slot_tuple_eq hx.typeIs F.entry_tuple_eq (ue (hr _ (by show A.in1.units <= _;first | exact Nat.le_add_right _ _ | (unfold Around.in1;dsimp only;omega))) hx hy ⟨_,rfl,(fun e=>nomatch e),wpAny_truthy_bool q⟩) (F.args_tuple_eq_2 _ _)) (by omega))
end
section
variable {prog:Program} {w:World} {A:Around} {E:Value->Shared->Prop} {s:Shared}
theorem nH {K:Type} [DecidableEq K] {knd:KeyKind prog w K} {ks:List K} {a:Addr} {Q:Bool->Shared->Prop} (m:Nat) (x:IsTupleKey knd s.heap ks a) (q:Q true s):wpAny (model prog w) A (eqIsQuiet (m+1) (.ref a)) Q E s:=by
  have ty:=x.typeIs
  obtain⟨o,items,n,e1,_,d1,all⟩:=x
  unfold eqIsQuiet
  refine wpAny_bind (wpAny_specialOf ty F.slot_tuple_eq.lookup ?_)
  show wpAny _ _ (isInstance (.ref a) (.type "tuple") >>= _) _ _ s
  refine wpAny_bind (wpAny_isInstance ty isSubtype_tuple_tuple ?_)
  simp only[Bool.not_true,Bool.false_eq_true,if_false]
  refine wpAny_bind (wpAny_seqItems e1 d1 (wpAny_bind ?_))
  show wpAny _ _ (forIn items _ _) _ _ s
  rw[<- Array.forIn_toList]
  refine wpAny_forIn_list _ (fun rest r s'=>r.1=none/\s'=s/\∀ v ∈ rest,carriedByValue v=true) _ (fun v rest r s'=>?_) (fun r s'=>?_) _ _ ⟨rfl,rfl,all.byValue⟩
  · rintro⟨_,rfl,h⟩
    rw[eqIsQuiet_byValue _ (h v List.mem_cons_self)]
    refine wpAny_bind (wpAny_pure ?_)
    simp only[Bool.not_true,Bool.false_eq_true,if_false]
    exact wpAny_pure ⟨rfl,rfl,fun u hu=>h u (List.mem_cons_of_mem _ hu)⟩
  · rintro⟨hr,rfl,_⟩
    obtain⟨r1,r2⟩:=r
    cases hr
    exact wpAny_pure q
theorem lR {K N:Type} [DecidableEq K] [DecidableEq N] {knd:KeyKind prog w K} {ν:KeyKind prog w N} {k:List K × N} {a:Addr} {Q:Bool->Shared->Prop} (x:IsPair (tupleKind knd) ν s.heap k a) (q:Q true s):wpAny (model prog w) A (eqIsQuiet 8 (.ref a)) Q E s:=by
  have ty:=x.typeIs
  obtain⟨o,b,v,n,e1,_,d1,k1,n1⟩:=x
  have k1:IsTupleKey knd s.heap k.1 b:=k1
  unfold eqIsQuiet
  refine wpAny_bind (wpAny_specialOf ty F.slot_tuple_eq.lookup ?_)
  show wpAny _ _ (isInstance (.ref a) (.type "tuple") >>= _) _ _ s
  refine wpAny_bind (wpAny_isInstance ty isSubtype_tuple_tuple ?_)
  simp only[Bool.not_true,Bool.false_eq_true,if_false]
  refine wpAny_bind (wpAny_seqItems e1 d1 (wpAny_bind ?_))
  show wpAny _ _ (forIn (#[Value.ref b,v]:Array Value) _ _) _ _ s
  rw[<- Array.forIn_toList]
  show wpAny _ _ (forIn [Value.ref b,v] _ _) _ _ _
  rw[List.forIn_cons]
  refine wpAny_bind (wpAny_bind (nH 6 k1 ?_))
  simp only[Bool.not_true,Bool.false_eq_true,if_false]
  refine wpAny_pure ?_
  dsimp only
  rw[List.forIn_cons]
  refine wpAny_bind (wpAny_bind ?_)
  rw[eqIsQuiet_byValue _ (ν.byValue _ _ n1)]
  refine wpAny_pure ?_
  simp only[Bool.not_true,Bool.false_eq_true,if_false]
  refine wpAny_pure ?_
  dsimp only
  rw[List.forIn_nil]
  exact wpAny_pure (wpAny_pure q)
noncomputable def cB (prog:Program) (w:World):HeapKind prog w (List Key × Key) where
  is:=IsPair (tupleKind (aU prog w)) (aU prog w)
  hash:=gD (tupleKind (aU prog w)) (aU prog w)
  draws:=fun k=>k.1.length+1+2
  room:=fun A=>A.units+64 < cLine
  inj:=fun hx hy=>hx.inj hy
  keeps:=fun x ho hd hs=>x.keeps ho hd hs
  pyHash:=fun hu hk h=>jc hu (fun A' hA=>show A'.units < cLine by omega) hk h
  eqBool:=fun hu hx hy h=>jv hu (fun A' hA=>show A'.units < cLine by omega) hx hy h
  quiet:=fun hk h=>lR hk h
end
end L2
namespace L2
open PySem PySem.Spec PyProof.Rows
abbrev SpK:=List Key × Key
def keyS (H:Hp) (k:SpK) (a:Addr):Prop:=∃ b,H a=some (.tup [.ref b,kV k.2])/\H b=some (.tup (k.1.map kV))
theorem keyS.same {H H':Hp} (e:∀ b ys,H b=some (.tup ys)->H' b=some (.tup ys)) {k:SpK} {a:Addr} (h:keyS H k a):keyS H' k a:=by
  obtain⟨b,h1,h2⟩:=h
  exact⟨b,e _ _ h1,e _ _ h2⟩
theorem gN {P:Program} {w:World} {H:Hp} {h:Heap} {k:SpK} {a:Addr} (ok:HOk P w H h) (e:keyS H k a):(cB P w).is h k a:=by
  obtain⟨b,h1,h2⟩:=e
  obtain⟨_,its,r,o,e1,e2,n,e3⟩:=(show ObjOk P w H h a (.tup [.ref b,kV k.2]) from ok a _ h1)
  cases r with
  | cons r1 r=>
    cases r with
    | cons r2 r=>
      cases r
      cases r1
      exact⟨o,b,_,n,e1,e2,e3,iC ok h2,jq r2⟩
noncomputable def mB (xs:List (SpK × Addr × V)) (k:SpK):Option V:=(xs.find? fun x=>decide (x.1=k)).map (·.2.2)
noncomputable def jd (xs:List (SpK × Addr × V)) (k:SpK) (a:Addr) (v:V):List (SpK × Addr × V):=if (mB xs k).isSome then xs.map (fun x=>if x.1=k then (x.1,x.2.1,v) else x) else xs++[(k,a,v)]
theorem qk (xs:List (SpK × Addr × V)) (k:SpK) (a:Addr) (v:V):(jd xs k a v).length <= xs.length+1:=by
  unfold jd
  split
  · rw[List.length_map];omega
  · rw[List.length_append];exact Nat.le_refl _
theorem ql {xs:List (SpK × Addr × V)} {k:SpK} {a:Addr} {v:V} {H:Hp} (h:∀ x ∈ xs,keyS H x.1 x.2.1) (hk:keyS H k a):∀ x ∈ jd xs k a v,keyS H x.1 x.2.1:=fun x hx=>by
  unfold jd at hx
  split at hx
  · obtain⟨y,hy,rfl⟩:=List.mem_map.mp hx
    split
    · exact h y hy
    · exact h y hy
  · rcases List.mem_append.mp hx with g | g
    · exact h x g
    · rw[List.mem_singleton.mp g]
      exact hk
abbrev SV:List (SpK × Addr × V)->List (SpK × Addr × Value)->Prop:=Paired fun p q=>p.1=q.1/\p.2.1=q.2.1/\RelV p.2.2 q.2.2
theorem SV.val {xs:List (SpK × Addr × V)} {us:List (SpK × Addr × Value)} (r:SV xs us) (k:SpK):RelO (mB xs k) ((atKey us k).map (·.2)):=by
  induction r with
  | nil=>exact True.intro
  | @cons p q ps qs h t ih=>
    obtain⟨h1,_,h3⟩:=h
    unfold mB atKey at ih ⊢
    rw[List.find?_cons,List.find?_cons,<- h1]
    by_cases e:p.1=k
    · rw[decide_eq_true e]
      exact h3
    · rw[decide_eq_false e]
      exact ih
theorem SV.put {xs:List (SpK × Addr × V)} {us:List (SpK × Addr × Value)} (r:SV xs us) (k:SpK) {a:Addr} {v:V} {u:Value} (rv:RelV v u):SV (jd xs k a v) (storedH us k a u):=by
  have e:=(r.val k).isSome_eq
  rw[Option.isSome_map] at e
  unfold jd storedH
  rw[e]
  split
  · clear e
    rename_i hh
    clear hh
    induction r with
    | nil=>exact .nil
    | @cons p q ps qs h t ih=>
      obtain⟨h1,h2,h3⟩:=h
      refine .cons ?_ ih
      unfold putAt
      rw[<- h1]
      by_cases z:p.1=k
      · simp only[z,if_true]
        exact⟨trivial,h2,rv⟩
      · simp only[z,if_false]
        exact⟨h1,h2,h3⟩
  · exact Paired.snoc r ⟨rfl,rfl,rv⟩
noncomputable def dsO (P:Program) (w:World) (a:Addr) (xs:List (SpK × Addr × V)):HO:=.ext fun h=>xs.length <= sizeLine/\(a == sysModules)=false/\∃ us,SV xs us/\∃ o es ep,h.get? a=some o/\o.ExactDict/\o.data=.dict es ep/\es.toList=us.map (entryOfKey (cB P w))/\(us.map (·.1)).Nodup
def DS (P:Program) (w:World) (H:Hp) (a:Addr) (xs:List (SpK × Addr × V)):Prop:=H a=some (dsO P w a xs)/\∀ x ∈ xs,keyS H x.1 x.2.1
theorem DS.same {P:Program} {w:World} {H H':Hp} {a:Addr} {xs:List (SpK × Addr × V)} (s:Same H H') (h:DS P w H a xs):DS P w H' a xs:=⟨s _ _ h.1,fun x hx=>(h.2 x hx).same fun b ys e=>s _ _ e⟩
theorem rp {P:Program} {w:World} {H:Hp} {h:Heap} {a:Addr} {xs:List (SpK × Addr × V)} (ok:HOk P w H h) (d:DS P w H a xs):xs.length <= sizeLine/\(a == sysModules)=false/\∃ us,SV xs us/\h.DictOfH (cB P w) a us:=by
  obtain⟨⟨z,y,us,r,o,es,ep,e1,e2,e3,e4,e5⟩,_⟩:=(show ObjOk P w H h a (dsO P w a xs) from ok a _ d.1)
  refine⟨z,y,us,r,o,es,ep,e1,e2,e3,e4,?_,e5⟩
  have all:∀ {l:List (SpK × Addr × V)} {m:List (SpK × Addr × Value)},SV l m->(∀ x ∈ l,keyS H x.1 x.2.1)->∀ x ∈ m,(cB P w).is h x.1 x.2.1:=by
    intro l m q
    induction q with
    | nil=>intro _ x hx;exact nomatch hx
    | @cons p q ps qs hq t ih=>
      intro hk x hx
      rcases List.mem_cons.mp hx with e | hx
      · subst e
        rw[<- hq.1,<- hq.2.1]
        exact gN ok (hk p List.mem_cons_self)
      · exact ih (fun x hx=>hk x (List.mem_cons_of_mem _ hx)) x hx
  exact all r d.2
section
variable {X:Cx} {pins:List (Addr × Obj)} {σ:St} {H:Hp} {s:Shared} {a b:Addr} {v:V} {r:Value} {xs:List (SpK × Addr × V)} {k:SpK} {A:Around} {E:Value->Shared->Prop}
theorem nB {Q:Value->Shared->Prop} (hu:A.units+80 < cLine) (I:Inv X pins σ H s) (d:DS X.prog X.w H a xs) (ks:keyS H k b) (hv:mB xs k=some v) (h:∀ w' s',Inv X pins σ H s'->RelV v w'->Q w' s') :
    wpAny (model X.prog X.w) A (getItem (.ref a) (.ref b)) Q E s:=by
  obtain⟨z,hd,us,rel,dd⟩:=rp I.hok d
  obtain⟨w',hw,rw'⟩:=RelO.some_of (v:=v) (o:=(atKey us k).map (·.2)) (by rw[<- hv];exact rel.val k)
  obtain⟨p,hp,hp2⟩:=Option.map_eq_some_iff.mp hw
  refine wpAny_getItem_heap (knd:=cB X.prog X.w) (show A.in1.units+64 < cLine from by show A.units+_+64 < cLine;omega) (gN I.hok ks) dd hp ?_
  rw[hp2]
  exact h w' _ (I.tok _) rw'
theorem nA {Q:Unit->Shared->Prop} (hu:A.units+80 < cLine) (I:Inv X pins σ H s) (d:DS X.prog X.w H a xs) (ks:keyS H k b) (l:xs.length < sizeLine) (rv:RelV v r) (h:∀ s',Inv X pins σ (upd H a (dsO X.prog X.w a (jd xs k b v))) s'->Q () s') :
    wpAny (model X.prog X.w) A (setItem (.ref a) (.ref b) r) Q E s:=by
  obtain⟨z,hd,us,rel,dd⟩:=rp I.hok d
  have hz:us.length <= sizeLine:=by rw[<- Paired.length rel];exact z
  have hl:(jd xs k b v).length <= sizeLine:=by have:=qk xs k b v;omega
  refine wpAny_setItem_heap (hsz:=hz) (knd:=cB X.prog X.w) (show A.in1.units+64 < cLine from by show A.units+_+64 < cLine;omega) (gN I.hok ks) dd fun h' dd' hs=>h _ ?_
  obtain⟨q,es,ep,hq,h2,h3,h4,_,h5⟩:=dd'
  refine pB I (by rw[d.1];exact True.intro) hs ⟨q,hq⟩ ⟨⟨hl,hd,_,rel.put k rv,q,es,ep,hq,h2,h3,h4,h5⟩,⟨q,hq⟩,fun g1 g2 ⟨y1,y2,us',y3,o',es',ep',y4,y5⟩ st=>⟨y1,y2,us',y3,o',es',ep',st _ y4,y5⟩⟩
theorem DS.put {P:Program} {w:World} (d:DS P w H a xs) (ks:keyS H k b):DS P w (upd H a (dsO P w a (jd xs k b v))) a (jd xs k b v):=by
  refine⟨aa,fun x hx=>(ql d.2 ks x hx).same fun c ys e=>?_⟩
  rw[av (eJ e d.1 (fun z=>nomatch z))]
  exact e
def vH (P:Program) (w:World) (td ty:TE):TE:=fun σ H Q=>td σ H fun x H1=>ty σ H1 fun y H2=>∃ a b xs k v,x=.ref a/\y=.ref b/\DS P w H2 a xs/\keyS H2 k b/\mB xs k=some v/\Q v H2
theorem qj {o i:Expr} {pos:Pos} {td ty:TE} (hu:X.A.units+80 < cLine) (ho:QE X o td) (hi:QE X i ty) (hs:xv i:=by intro _ _;rfl):QE X (.Subscript o i pos) (vH X.prog X.w td ty):=⟨fun pins s σ H Q I h=>by
  refine mU PySem.F.slot_dict_getitem.lookup hs (thn (ho.h pins s σ H _ I h) fun u s1 ⟨x,H1,I1,rx,q1⟩=>thn (hi.h pins s1 σ H1 _ I1 q1) fun iv s2 ⟨y,H2,I2,ry,a,b,xs,k,v,ex,ey,d,ks,hv,q2⟩=>?_)
  subst ex ey
  cases rx
  cases ry
  obtain⟨_,_,us,_,dd⟩:=rp I2.hok d
  exact⟨dd.typeIs,nB hu I2 d ks hv fun w' s3 I3 rw'=>⟨v,H2,I3,rw',q2⟩⟩⟩
def wl (P:Program) (w:World) (td ty tv:TE):TS:=fun D σ H=>tv σ H fun v H1=>td σ H1 fun x H2=>ty σ H2 fun y H3=>∃ a b xs k,x=.ref a/\y=.ref b/\DS P w H3 a xs/\keyS H3 k b/\xs.length < sizeLine/\D.nx σ (upd H3 a (dsO P w a (jd xs k b v)))
theorem jM {o i value:Expr} {pos pos':Pos} {td ty tv:TE} (hu:X.A.units+80 < cLine) (ho:QE X o td) (hi:QE X i ty) (hv:QE X value tv) (hs:swapsWith value (some (.Subscript o i pos')) pos.line X.env=pure false:=by rfl):QS X (.Assign [.Subscript o i pos'] value pos) (wl X.prog X.w td ty tv):=⟨fun pins s σ H D I h=>by
  refine wpAny_Assign_Subscript (thn (hv.h pins s σ H _ I h) fun r s1 ⟨v,H1,I1,rv,q1⟩=>thn (ho.h pins s1 σ H1 _ I1 q1) fun u s2 ⟨x,H2,I2,rx,q2⟩=>thn (hi.h pins s2 σ H2 _ I2 q2) fun iv s3 ⟨y,H3,I3,ry,a,b,xs,k,ex,ey,d,ks,l,q3⟩=>?_) hs
  subst ex ey
  cases rx
  cases ry
  exact nA hu I3 d ks l rv fun s4 I4=>⟨σ,_,I4,q3⟩⟩
def vG (P:Program) (w:World):TE:=fun _ H Q=>∀ p,H p=none->Q (.ref p) (upd H p (dsO P w p []))
theorem qi {pos:Pos}:QE X (.Dict [] [] pos) (vG X.prog X.w):=⟨fun pins s σ H Q I h=>by
  refine wpAny_Dict_empty ⟨.ref s.heap.objs.size,_,I.laid (a:=s.heap.objs.size) (o:=dsO X.prog X.w s.heap.objs.size []) (t':=s.toks) (fun _ _ q=>Heap.get?_push_of_some _ q) (Nat.le_refl _) ⟨⟨Nat.zero_le _,beq_eq_false_iff_ne.mpr (Ne.symm (Nat.ne_of_lt I.big)),[],.nil,_,#[],_,Heap.get?_push_size _ rfl,?_,rfl,rfl,.nil⟩,⟨_,Heap.get?_push_size _ rfl⟩,fun g1 g2 ⟨y1,y2,us',y3,o',es',ep',y4,y5⟩ st=>⟨y1,y2,us',y3,o',es',ep',st _ y4,y5⟩⟩,rfl,h _ I.fresh⟩
  first | exact⟨rfl,rfl⟩ | (constructor <;> rfl) | (unfold Obj.ExactDict;simp)⟩
end
end L2
namespace L2
open PySem PySem.Spec PyProof.Rows
def RawD (h:Heap) (d:Addr) (es:Array DictEntry) (ep:Nat):Prop:=∃ o,h.get? d=some o/\o.ExactDict/\o.data=.dict es ep
theorem RawD.typeIs {s:Shared} {d:Addr} {es:Array DictEntry} {ep:Nat} (x:RawD s.heap d es ep):s.TypeIs (.ref d) "dict":=let ⟨o,e,c,_⟩:=x;⟨o,e,c.1⟩
theorem RawD.to {h h':Heap} {d:Addr} {es:Array DictEntry} {ep:Nat} (x:RawD h d es ep) (k:∀ o,h.get? d=some o->h'.get? d=some o):RawD h' d es ep:=let ⟨o,e,r⟩:=x;⟨o,k _ e,r⟩
section
variable {prog:Program} {w:World} {A:Around} {E:Value->Shared->Prop} {s:Shared} {d it:Addr} {es:Array DictEntry} {ep i:Nat}
theorem qc {Q:Value->Shared->Prop} (ns:(d == sysModules)=false) (m:RawD s.heap d es ep)
    (q:Q (.ref s.heap.objs.size) { s with heap:=s.heap.push { cls:=.type "dict_keyiterator",data:=.fields #[.ref d,.int 0 0,.int es.size 0,.int ep 0] } }):wpAny (model prog w) A (pyIter (.ref d)) Q E s:=by
  have ty:=m.typeIs
  obtain⟨o,e1,_,e3⟩:=m
  refine wpAny_pyIter_slot ty F.slot_dict_iter (wpAny_call_entry F.slot_dict_iter ty F.entry_dict_iter ?_ (F.args_dict_iter_1 _))
  unfold Builtin.«dict.__iter__» Builtin.Dict.dictSlotNone
  refine wpAny_bind (wpAny_bind (wpAny_notOrdered_dict ty (wpAny_pure ?_)))
  show wpAny _ _ (Builtin.Dict.showsAll d >>= _) _ _ s
  unfold Builtin.Dict.showsAll
  rw[if_neg (by rw[ns];exact Bool.false_ne_true)]
  exact wpAny_bind (wpAny_pure (wpAny_bind (wpAny_dictEntries e1 e3 (wpAny_bind (wpAny_dictEpoch e1 e3 (wpAny_bind (wpAny_newObj_type (wpAny_pure ⟨_,rfl, "dict_keyiterator",_,⟨_,Heap.get?_push_size _ rfl,rfl⟩,F.slot_dict_keyiterator_next.lookup,by simpa [rawInt] using q⟩))))))))
theorem qb {e:DictEntry} {Q:Option Value->Shared->Prop} (hi:s.heap.IsKeyIter it d i es.size ep) (m:RawD s.heap d es ep) (hx:es[i]?=some e)
    (q:∀ h',h'.IsKeyIter it d (i+1) es.size ep->Heap.SameBut it s.heap h'->Q (some e.key) { s with heap:=h' }):wpAny (model prog w) A (pyNext (.ref it)) Q E s:=by
  have ti:=hi.typeIs
  obtain⟨o,e1,e2,e3⟩:=id hi
  obtain⟨od,d1,d2,d3⟩:=m
  have hlt:=(Array.getElem?_eq_some_iff.mp hx).1
  have hev:=(Array.getElem?_eq_some_iff.mp hx).2
  have hown:Builtin.Dict_items.ownsTuple "dict_keyiterator" = false:=by decide
  unfold pyNext
  refine wpAny_bind (wpAny_attempt (wpAny_callSpecial?_slot (name:=Str.ofString "__next__") ti F.slot_dict_keyiterator_next (wpAny_call_entry F.slot_dict_keyiterator_next ti F.entry_dict_keyiterator_next ?_ (F.args_dict_keyiterator_next_1 _))))
  refine wpAny_bind (wpAny_pure (wpAny_bind (wpAny_bind ?_)))
  first | refine wpAny_bind (wpAny_typeNameOfWhole_keyiter ti (wpAny_pure ?_)) | refine wpAny_bind (wpAny_typeNameOf_keyiter ti (wpAny_pure ?_))
  refine wpAny_bind (wpAny_fieldsOf e1 e3 ?_)
  simp only[hown,Bool.false_eq_true,if_false]
  show wpAny _ _ (if (Value.ref d == Value.none)=true then _ else _) _ _ s
  rw[if_neg (by exact Bool.false_ne_true)]
  refine wpAny_bind (wpAny_pure (wpAny_bind (wpAny_dictEntries d1 d3 ?_)))
  rw[if_neg (by simp)]
  refine wpAny_bind (wpAny_pure (wpAny_bind (wpAny_dictEpoch d1 d3 ?_)))
  rw[if_neg (by simp)]
  refine wpAny_pure ?_
  simp only[show ¬ ((i:Int) < 0) from by omega,if_false,Int.toNat_natCast,hx]
  refine wpAny_bind ?_
  first | refine wpAny_bind (wpAny_typeNameOfWhole_keyiter ti (wpAny_pure ?_)) | refine wpAny_bind (wpAny_typeNameOf_keyiter ti (wpAny_pure ?_))
  refine wpAny_bind (wpAny_isOneOf_keyiter ti ?_)
  show wpAny _ _ (setField (.ref it) 1 (rawInt ((i:Int)+1)) >>= _) _ _ s
  refine wpAny_bind (wpAny_setField e1 e3 (by simp) (wpAny_bind (wpAny_holding ?_)))
  have hi':(s.heap.update it (Obj.mapFields (·.setIfInBounds 1 (rawInt ((i:Int)+1))))).IsKeyIter it d (i+1) es.size ep:=⟨_,Heap.get?_update_self _ e1 (Obj.isFreed_of_fields (Obj.data_mapFields e3 _)),(Obj.cls_mapFields ..).trans e2,by rw[Obj.data_mapFields e3];simp[rawInt]⟩
  refine wpAny_bind (wpAny_isOneOf_keyiter (s:={ s with heap:=s.heap.update it (Obj.mapFields (·.setIfInBounds 1 (rawInt ((i:Int)+1)))) }) hi'.typeIs ?_)
  show wpAny _ _ (pure e.key) _ _ _
  exact wpAny_pure (wpAny_pure ⟨_,rfl,wpAny_pure (q _ hi' (Heap.SameBut.update ..))⟩)
theorem tP {Q:Option Value->Shared->Prop} (hh:A.handled=none) (hi:s.heap.IsKeyIter it d es.size es.size ep) (m:RawD s.heap d es ep)
    (q:∀ h',Heap.ExtBut it s.heap h'->Q none { s with heap:=h' }):wpAny (model prog w) A (pyNext (.ref it)) Q E s:=by
  have ti:=hi.typeIs
  obtain⟨o,e1,e2,e3⟩:=id hi
  obtain⟨od,d1,d2,d3⟩:=m
  have hown:Builtin.Dict_items.ownsTuple "dict_keyiterator" = false:=by decide
  have hx:es[es.size]?=none:=by simp
  unfold pyNext
  refine wpAny_bind (wpAny_attempt (wpAny_callSpecial?_slot (name:=Str.ofString "__next__") ti F.slot_dict_keyiterator_next (wpAny_call_entry F.slot_dict_keyiterator_next ti F.entry_dict_keyiterator_next ?_ (F.args_dict_keyiterator_next_1 _))))
  refine wpAny_bind (wpAny_pure (wpAny_bind (wpAny_bind ?_)))
  first | refine wpAny_bind (wpAny_typeNameOfWhole_keyiter ti (wpAny_pure ?_)) | refine wpAny_bind (wpAny_typeNameOf_keyiter ti (wpAny_pure ?_))
  refine wpAny_bind (wpAny_fieldsOf e1 e3 ?_)
  simp only[hown,Bool.false_eq_true,if_false]
  show wpAny _ _ (if (Value.ref d == Value.none)=true then _ else _) _ _ s
  rw[if_neg (by exact Bool.false_ne_true)]
  refine wpAny_bind (wpAny_pure (wpAny_bind (wpAny_dictEntries d1 d3 ?_)))
  rw[if_neg (by simp)]
  refine wpAny_bind (wpAny_pure (wpAny_bind (wpAny_dictEpoch d1 d3 ?_)))
  rw[if_neg (by simp)]
  refine wpAny_pure ?_
  simp only[show ¬ ((es.size:Int) < 0) from by omega,if_false,Int.toNat_natCast,hx]
  refine wpAny_bind ?_
  first | refine wpAny_bind (wpAny_typeNameOfWhole_keyiter ti (wpAny_pure ?_)) | refine wpAny_bind (wpAny_typeNameOf_keyiter ti (wpAny_pure ?_))
  show wpAny _ _ (setField (.ref it) 0 .none >>= _) _ _ s
  refine wpAny_bind (wpAny_setField e1 e3 (by simp) ?_)
  show wpAny _ _ (newExc (.type "StopIteration") [] >>= _) _ _ _
  refine wpAny_bind ?_
  simp only[newExc,newTuple]
  refine wpAny_bind (wpAny_newObj_type ?_ (by size_fits))
  refine wpAny_bind (m:=firstArgMember _ _) (wpAny_of_eq (a:=Value.none) (by first | rfl | (simp only[firstArgMember];rfl)) (wpAny_newObj_type ?_ (by size_fits)))
  simp only[raiseNew]
  refine wpAny_bind (wpAny_handled ?_)
  rw[show A.in1.handled=none from hh]
  refine wpAny_bind (wpAny_pure (wpAny_throw ?_))
  refine wpAny_bind (wpAny_isInstance (T:="StopIteration") (b:=true) ⟨_,Heap.get?_push_size _ rfl,rfl⟩ isSubtype_stop ?_)
  exact wpAny_pure (q _ (((Heap.SameBut.update ..).extBut.push _).push _))
theorem mG (hh:A.handled=none) (I d:Addr) (hne:d ≠ I) (es:Array DictEntry) (ep:Nat) :
    Walks prog w A I [I,d] [I] es.size (fun i v=>∃ e,es[i]?=some e/\v=e.key) (fun i h=>h.IsKeyIter I d i es.size ep/\RawD h d es ep) where
  sub:=fun b hb=>by simp at hb;simp[hb]
  frame:=fun _ _ _ st hk=>⟨st.1.at fun o e=>hk I (by simp) o e,st.2.to fun o e=>hk d (by simp) o e⟩
  item:=fun i s Q E hi st hQ=>by
    obtain⟨e,hx⟩ : ∃ e,es[i]?=some e:=⟨es[i],by simp[hi]⟩
    exact qb st.1 st.2 hx fun h' k' sb=>hQ e.key h' s.toks ⟨e,hx,rfl⟩ ⟨k',st.2.to fun o e=>(sb.2 d hne).trans e⟩ fun b o hb e=>(sb.2 b fun z=>hb (by simp[z])).trans e
  done:=fun s Q E st hQ=>tP hh st.1 st.2 fun h' he=>hQ h' s.toks fun b o hb e=>he b o (fun z=>hb (by simp[z])) e
  self:=fun _ _ _ _ st hQ=>wpAny_pyIter_keyiter st.1 hQ
theorem vh:typeLookup (.type "dict") "__len__" = pure (some (.builtin "dict.__len__")):=by rw[typeLookup_type,builtinLookup_eq_fast];kernel_rfl
theorem jn {R:Result->Shared->Prop} (hh:A.handled=none) (ns:(d == sysModules)=false) (m:RawD s.heap d es ep) (S:Addr) (nS:S ≠ d) (c0:Nat) (hS:s.heap.get? S=some { cls:=.type "list",data:=.seq #[] c0 })
    (hR:∀ h' tk acc c',(∀ b o,b ≠ S->s.heap.get? b=some o->h'.get? b=some o)->h'.get? S=some { cls:=.type "list",dict:=none,data:=.seq acc c',slots:=#[] }->ItemsOf (fun i v=>∃ e,es[i]?=some e/\v=e.key) acc es.size->R (.ok (.ret .none)) { s with heap:=h',toks:=tk })
    (hn:es.size <= sizeLine):wpAny (model prog w) A.in1 (Builtin.List.listExtendWith (.ref S) (.ref d) .none) (fun fin s'=>match fin with | .done f=>R (.ok f) s' | .again c'=>c'.quiet=true/\codeAny (model prog w) A c' R s') (fun e s'=>R (.error e) s') s:=by
  have same:Builtin.List.listSameRef (.ref S) (.ref d)=false:=by simp[Builtin.List.listSameRef,nS]
  have ty:=m.typeIs
  have ld:d < s.heap.objs.size:=let ⟨_,e,_⟩:=m;Heap.lt_size e
  have lS:S < s.heap.objs.size:=Heap.lt_size hS
  unfold Builtin.List.listExtendWith
  refine wpAny_bind (wpAny_typeOf ty ?_)
  rw[if_neg (by rw[same];decide)]
  refine wpAny_bind (qc ns m (wpAny_bind (wpAny_holding ?_)))
  have m1:RawD (s.heap.push { cls:=.type "dict_keyiterator",data:=.fields #[.ref d,.int 0 0,.int es.size 0,.int ep 0] }) d es ep:=m.to fun o e=>Heap.get?_push_of_some _ e
  unfold Builtin.List.listLengthHint
  refine wpAny_bind (wpAny_specialOf (RawD.typeIs m1) vh ?_)
  generalize hid:("dict.__len__" : String)=id0
  wp_delta
  rw[show splitId id0=some ("dict", "__len__") from by subst hid;decide +kernel]
  subst hid
  refine wpAny_bind (wpAny_isInstance (b:=true) (RawD.typeIs m1) (by rw[isSubtype_type];kernel_rfl) ?_)
  rw[if_neg (by decide)]
  show wpAny _ _ (if _=true then (typeOf (Value.ref d) >>= _) else _) _ _ _
  rw[if_pos (by decide +kernel)]
  refine wpAny_bind (wpAny_typeOf (RawD.typeIs m1) (wpAny_pure ?_))
  show wpAny _ A.in1 (rule "list.extend.makes-room" >>= fun _=>Builtin.List.listTouch (.ref S) >>= fun _=>again (.builtin "list.extend.loop" ⟨[.ref S,.ref s.heap.objs.size,.none],[]⟩)) _ _ _
  refine wpAny_bind (wpAny_rule (wpAny_bind ?_))
  show wpAny _ A.in1 (updateSeq S (·.push .none) >>= fun _=>updateSeq S (·.pop)) _ _ _
  have hS1:=Heap.get?_push_of_some { cls:=.type "dict_keyiterator",data:=.fields #[.ref d,.int 0 0,.int es.size 0,.int ep 0] } hS
  refine wpAny_bind (wpAny_updateSeq hS1 rfl ?_)
  have hS2:=Heap.get?_update_self (Obj.mapSeq (·.push Value.none)) hS1 rfl
  refine wpAny_updateSeq (hz:=by seq_fits) hS2 rfl ?_
  have hS3:=Heap.get?_update_self (Obj.mapSeq (·.pop)) hS2 rfl
  have oth:∀ b o,b ≠ S->(s.heap.push { cls:=.type "dict_keyiterator",data:=.fields #[.ref d,.int 0 0,.int es.size 0,.int ep 0] }).get? b=some o->(((s.heap.push { cls:=.type "dict_keyiterator",data:=.fields #[.ref d,.int 0 0,.int es.size 0,.int ep 0] }).update S (Obj.mapSeq (·.push Value.none))).update S (Obj.mapSeq (·.pop))).get? b=some o:=
    fun b o hb e=>(Heap.get?_update_other _ _ (Ne.symm hb)).trans ((Heap.get?_update_other _ _ (Ne.symm hb)).trans e)
  have nI:S ≠ s.heap.objs.size:=Nat.ne_of_lt lS
  have nd:d ≠ s.heap.objs.size:=Nat.ne_of_lt ld
  have W:=(mG (prog:=prog) (w:=w) (A:=A.in1) hh s.heap.objs.size d nd es ep).toS
  refine wpAny_pure ⟨plainId_quiet F.plain_extend_loop _,codeAny_extend_loopS W hn S (by simp;exact⟨nI,nS⟩) .none es.size 0 _ _ _ rfl (Nat.zero_le _) ⟨⟨_,oth _ _ nI.symm (Heap.get?_push_size _ rfl),rfl,rfl⟩,m1.to fun o e=>oth d o nS.symm e⟩ hS3 (ItemsOf.nil _) fun s' acc c' hm hS' ha=>?_⟩
  rw[Moved.eq_with hm]
  refine hR s'.heap s'.toks acc c' (fun b o hb e=>hm.heap b o (fun z=>?_) (oth b o hb (Heap.get?_push_of_some _ e))) hS' ha
  rcases List.mem_cons.mp z with z | z
  · exact hb z
  · have:=Heap.lt_size e
    rw[List.mem_singleton.mp z] at this
    exact Nat.lt_irrefl _ this
theorem oB {Q:Value->Shared->Prop} (hh:A.handled=none) (ns:(d == sysModules)=false) (m:RawD s.heap d es ep)
    (q:∀ h' tk acc c',(∀ b o,s.heap.get? b=some o->h'.get? b=some o)->h'.get? s.heap.objs.size=some { cls:=.type "list",dict:=none,data:=.seq acc c',slots:=#[] }->ItemsOf (fun i v=>∃ e,es[i]?=some e/\v=e.key) acc es.size->Q (.ref s.heap.objs.size) { s with heap:=h',toks:=tk })
    (hn:es.size <= sizeLine):wpAny (model prog w) A (call (.type "list") [.ref d]) Q E s:=by
  refine callType_codes (Q₁:=fun obj sx=>obj=.ref s.heap.objs.size/\sx={ s with heap:=s.heap.push { cls:=.type "list",data:=.seq #[] } }) F.called_list (F.typeCall_list_1 _) F.entry_list_init (code_list_new _ ⟨rfl,rfl⟩) fun obj sx hx=>?_
  obtain⟨rfl,rfl⟩:=hx
  have hS:(s.heap.push { cls:=.type "list",data:=.seq #[] }).get? s.heap.objs.size=some { cls:=.type "list",data:=.seq #[] }:=Heap.get?_push_size _ rfl
  have ld:d < s.heap.objs.size:=let ⟨_,e,_⟩:=m;Heap.lt_size e
  refine⟨⟨_,hS,rfl⟩,F.args_list_init_2 _ _,?_⟩
  show wpAny _ _ (do let old <- Builtin.List.listItems (.ref s.heap.objs.size);Builtin.List.listUpdate (.ref s.heap.objs.size) (fun _=>#[]);letGo old.toList.reverse;Builtin.List.listExtendWith (.ref s.heap.objs.size) (.ref d) .none) _ _ _
  refine wpAny_bind ?_
  unfold Builtin.List.listItems
  refine wpAny_bind (wpAny_seqItems hS rfl (wpAny_pure (show wpAny _ _ (updateSeq s.heap.objs.size (fun _=>#[]) >>= fun _=>letGo (#[]:Array Value).toList.reverse >>= fun _=>Builtin.List.listExtendWith (.ref s.heap.objs.size) (.ref d) .none) _ _ _ from wpAny_bind (wpAny_updateSeq hS rfl (wpAny_bind (wpAny_letGo ?_))))))
  have hS2:=Heap.get?_update_self (Obj.mapSeq (fun _=>(#[]:Array Value))) hS rfl
  have ot:∀ b o,b ≠ s.heap.objs.size->s.heap.get? b=some o->((s.heap.push { cls:=.type "list",data:=.seq #[] }).update s.heap.objs.size (Obj.mapSeq (fun _=>(#[]:Array Value)))).get? b=some o:=fun b o hb e=>(Heap.get?_update_other _ _ (Ne.symm hb)).trans (Heap.get?_push_of_some _ e)
  have nd:d ≠ s.heap.objs.size:=Nat.ne_of_lt ld
  refine jn (A:=A.in1) hh ns (m.to fun o e=>ot d o nd e) _ nd.symm _ hS2 (fun h' tk acc c' hk hS' ha=>⟨rfl,q h' tk acc c' (fun b o e=>?_) hS' ha⟩) hn
  have nb:b ≠ s.heap.objs.size:=Nat.ne_of_lt (Heap.lt_size e)
  exact hk b o nb (ot b o nb e)
end
section
variable {X:Cx} {e:Expr} {te:TE} {p1 q1:Pos}
theorem oF {xs:List (SpK × Addr × V)} {us:List (SpK × Addr × Value)} {es:Array DictEntry} {P:Program} {w:World} (r:SV xs us) (he:es.toList=us.map (entryOfKey (cB P w))) {acc:Array Value} (h:ItemsOf (fun i v=>∃ e,es[i]?=some e/\v=e.key) acc es.size):Vals (xs.map fun x=>V.ref x.2.1) acc.toList:=by
  obtain⟨h1,h2⟩:=h
  have e1:acc.toList=es.toList.map (·.key):=by
    refine List.ext_getElem? fun i=>?_
    by_cases hi:i < es.size
    · obtain⟨e,g1,g2⟩:=h2 i (acc[i]'(by omega)) (by simp[h1,hi])
      have a1:acc.toList[i]?=some (acc[i]'(by omega)):=by simp[h1,hi]
      have a2:es.toList[i]?=some e:=by rw[Array.getElem?_toList];exact g1
      rw[a1,List.getElem?_map,a2,g2]
      rfl
    · rw[List.getElem?_eq_none (by simp[h1];omega),List.getElem?_eq_none (by simp;omega)]
  rw[e1,he,List.map_map]
  clear e1 h2 h1 he
  induction r with
  | nil=>exact .nil
  | @cons p q ps qs hq _ ih=>exact .cons (show Value.ref q.2.1=Value.ref p.2.1 by rw[hq.2.1]) ih
def vE (P:Program) (w:World) (te:TE):TE:=fun σ H Q=>te σ H fun x H1=>∃ a xs,x=.ref a/\DS P w H1 a xs/\∀ r,H1 r=none->Q (.ref r) (upd H1 r (.lst (xs.map fun x=>V.ref x.2.1)))
theorem qg (hc:X.calm=true) (g1:Gl X "list") (m1:X.mg "list" = none) (he:QE X e te) (hs1:starEach [e] X.env=[(false,eval e X.env)]:=by rfl) :
    QE X (.Call (.Name "list" p1) [e] [] q1) (vE X.prog X.w te):=⟨fun pins s σ H Q I h=>by
  refine Call_ (dg I g1 m1 PyProof.Rows.boot_list (PyProof.Rows.callWith_type1 ?_ hs1 rfl))
  rw[hs1]
  show wpAny _ _ (spliced ((false,eval e X.env)::backTo q1 [])) _ _ s
  refine Calls.spliced_cons (thn (he.h pins s σ H _ I h) fun u s1 ⟨x,H1,I1,r1,a,xs,ex,ds,k⟩=>?_)
  subst ex
  cases r1
  refine Calls.spliced_nil ?_
  obtain⟨z,ns,us,rel,o,es,ep,e1,e2,e3,e4,_⟩:=rp I1.hok ds
  have lz:es.size=xs.length:=by rw[Paired.length rel,<- List.length_map (f:=entryOfKey (cB X.prog X.w)),<- e4];simp
  refine oB (I1.ok.hd hc) ns ⟨o,e1,e2,e3⟩ (fun h' tk acc c' hk hS ha=>?_) (by omega)
  have rv:=oF rel e4 ha
  refine⟨.ref s1.heap.objs.size,_,I1.laid (t':=tk) (fun b u eb=>hk b u eb) (Nat.le_refl _) (show ObjOk X.prog X.w _ h' _ (.lst (xs.map fun x=>V.ref x.2.1)) from ⟨by rw[List.length_map];exact z,acc.toList,c',rv,?_⟩),rfl,k _ I1.fresh⟩
  rw[hS]⟩
end
end L2
namespace L2
open PySem PySem.Spec PyProof.Rows
def PrsT (H:Hp):List V->List (Key × V)->Prop:=Paired fun (u:V) (kv:Key × V)=>∃ p,u=.ref p/\H p=some (.tup [kV kv.1,kv.2])
theorem PrsT.mem {H:Hp}:∀ {us:List V} {kvs:List (Key × V)},PrsT H us kvs->∀ x ∈ us,∃ p,x=.ref p:=by
  intro us kvs h
  unfold PrsT at h
  induction h with
  | nil=>intro x hx;cases hx
  | cons r _ ih=>
    intro x hx
    rcases List.mem_cons.mp hx with rfl | hx
    · obtain⟨p,e,_⟩:=r
      exact⟨p,e⟩
    · exact ih x hx
theorem qo {P:Program} {w:World} {H:Hp} {h:Heap} (ok:HOk P w H h):∀ {us:List V} {kvs:List (Key × V)} {its:List Value},PrsT H us kvs->Vals us its ->
    ∃ ps:List PrE,ps.length=its.length/\(∀ (i:Nat) v,its[i]?=some v->∃ x,ps[i]?=some x/\v=.ref x.at_)/\(∀ x ∈ ps,(aU P w).is x.key x.kv=true)/\(∀ x ∈ ps,PrIn h x)/\KV kvs (ps.map fun x=>(x.key,x.val)):=by
  intro us kvs its hp
  unfold PrsT at hp
  induction hp generalizing its with
  | nil=>
    intro r
    cases r
    exact⟨[],rfl,(fun i v hv=>by simp at hv),(fun x hx=>by cases hx),(fun x hx=>by cases hx),Paired.nil⟩
  | @cons u kv us kvs e _ ih=>
    intro r
    cases r with
    | @cons _ v _ its r1 r2=>
    obtain⟨ps,l,h1,h2,h3,h4⟩:=ih r2
    obtain⟨p,rfl,hp⟩:=e
    cases r1
    obtain⟨_,jts,rj,o,ho,hc,n,hd⟩:=(show ObjOk P w H h p (.tup [kV kv.1,kv.2]) from ok p _ hp)
    cases rj with
    | @cons _ a _ _ ra rj=>
    cases rj with
    | @cons _ b _ _ rb rj=>
    cases rj
    refine⟨⟨p,kv.1,a,b⟩::ps,by simp[l],fun i v hv=>?_,fun x hx=>?_,fun x hx=>?_,.cons ⟨rfl,rb⟩ h4⟩
    · cases i with
      | zero=>simp at hv;exact⟨_,rfl,hv.symm⟩
      | succ i=>
        obtain⟨x,y1,y2⟩:=h1 i v (by simpa using hv)
        exact⟨x,by simpa using y1,y2⟩
    · rcases List.mem_cons.mp hx with rfl | hx
      · exact jq ra
      · exact h2 x hx
    · rcases List.mem_cons.mp hx with rfl | hx
      · exact⟨o,n,ho,hc,by simpa using hd⟩
      · exact h3 x hx
theorem hI (ps:List PrE) (kvs:List (Key × Value)):ku kvs ps=merged kvs (ps.map fun x=>(x.key,x.val)):=by
  unfold ku merged
  rw[List.foldl_map]
section
variable {X:Cx}
theorem gj (hc:X.calm=true):CallR X (.type "dict") (fun xs H Q=>∃ a us kvs,xs=[.ref a]/\H a=some (.tup us)/\us.length <= 1000/\PrsT H us kvs/\∀ d,H d=none->Q (.ref d) (upd H d (.dK (bx [] kvs)))):=by
  intro pins s σ H xs us0 Q I r h
  obtain⟨a,us,kvs,rfl,ha,hl,hp,q⟩:=h
  obtain⟨u,rfl,rx⟩:=ky r
  cases rx
  obtain⟨⟨_,nd⟩,its,rv,o,ho,hcl,n,hdat⟩:=(show ObjOk X.prog X.w H s.heap a (.tup us) from I.hok a _ ha)
  have hnd:o.dict=none:=by
    rcases nd with ⟨x,hx,hne⟩ | k
    · obtain⟨p,e⟩:=hp.mem x hx
      exact absurd e (hne p)
    · exact k o ho
  obtain⟨ps,lp,hi,hk,hin,hkv⟩:=qo I.hok hp rv
  have lv:=rv.length
  have lkv:kvs.length=us.length:=(Paired.length hp).symm
  refine mw (I.ok.hd hc) ho hcl hdat hnd (by simpa using lp) (by simp;omega) (fun i v hv=>hi i v (by simpa using hv)) hk hin fun h' tk dd kp=>?_
  have hf:H s.heap.objs.size=none:=I.hok.fresh (Nat.le_refl _)
  rw[hI] at dd
  have hz:(bx [] kvs).length <= sizeLine:=by
    have h1:=cV kvs []
    have h2:sizeLine=16777216:=by decide
    simp at h1
    omega
  exact⟨.ref s.heap.objs.size,_,I.laid (t':=tk) kp (Nat.le_refl _) (show ObjOk X.prog X.w _ _ _ (.dK (bx [] kvs)) from ⟨hz,beq_eq_false_iff_ne.mpr (Ne.symm (Nat.ne_of_lt I.big)),_,KV.merge hkv .nil,dd⟩),rfl,q _ hf⟩
theorem wN (hu:X.A.units+1 < cLine):OpR X (compareOp .In) (fun x y H Q=>∃ a kvs k,x=kV k/\y=.ref a/\H a=some (.dK kvs)/\Q (.bl (dP kvs k).isSome) H):=by
  intro pins s σ H x y v u Q I rx ry h
  obtain⟨a,kvs,k,rfl,rfl,ha,q⟩:=h
  cases ry
  exact yX hu I (DGet.k ha) rx fun s' I'=>⟨.bl _,H,I',rfl,q⟩
theorem nX (hu:X.A.units+1 < cLine):OpR X (compareOp .NotIn) (fun x y H Q=>∃ a kvs k,x=kV k/\y=.ref a/\H a=some (.dK kvs)/\Q (.bl (!(dP kvs k).isSome)) H):=by
  intro pins s σ H x y v u Q I rx ry h
  obtain⟨a,kvs,k,rfl,rfl,ha,q⟩:=h
  cases ry
  exact vi hu I (DGet.k ha) rx fun s' I'=>⟨.bl _,H,I',rfl,q⟩
end
theorem iA:∀ (more:List (Key × V)) (kvs:List (Key × V)) (k:Key),(dP (bx kvs more) k).isSome=true ↔ ((dP kvs k).isSome=true\/k ∈ more.map Prod.fst)
  | [],kvs,k=>by
    show (dP kvs k).isSome=true ↔ _
    simp
  | (j,y)::more,kvs,k=>by
    show (dP (bx (mD kvs j y) more) k).isSome=true ↔ _
    rw[iA more (mD kvs j y) k,pQ]
    by_cases h:k=j
    · subst h
      simp
    · rw[if_neg h,List.map_cons,List.mem_cons]
      constructor
      · rintro (z | z)
        · exact .inl z
        · exact .inr (.inr z)
      · rintro (z | z | z)
        · exact .inl z
        · exact absurd z h
        · exact .inr z
end L2
namespace L2
open PySem PySem.Spec PySem.Calls PyProof.Rows Builtin Builtin.Tuple
section
variable {X:Cx}
end
end L2
namespace L2
open PySem PySem.Spec PyProof.Rows
def yU (K:W.Frag) (n:Nat) (t:TGs):TG:=fun v σ H Q=>∃ a xs,v=.ref a/\SqL K H a xs/\xs.length=n/\t xs σ H Q
theorem wy {X:Cx} {pos:Pos} {es:List Expr} {k:Nat} {t:TGs} {n:Nat} (hc:X.calm=true) (h:QGs X es t) (hn:(assignEach es X.env).length=n:=by rfl) (hst:(assignEach es X.env).findIdx? (·.1)=none:=by rfl):QG X (.Tuple es k pos) (yU X.K n t):=⟨by
  intro pins s σ H v u Q I r hw
  obtain⟨a,xs,e1,hq,hl,hw⟩:=hw
  subst e1
  cases r
  obtain⟨its,rv,ht,hz⟩:=I.list hq
  rw[assign_Tuple]
  refine wpAny_bind (wpAny_standAt ?_)
  unfold unpack
  rw[show (assignEach es X.env).length=its.toArray.size by simp[hn,<- hl,rv.length],hst]
  refine wpAny_bind (wpAny_holding (PySem.W.kun_itemsOf (I.ok.hd hc) ht.isList fun h' hx=>?_))
  have I1:Inv X pins σ H { s with heap:=h' }:=I.kept (t':=s.toks) fun b o e=>hx b o (Nat.ne_of_lt (Heap.lt_size e)) e
  exact h.h pins _ σ H xs _ Q I1 (by simpa using rv) hw⟩
end L2
namespace FT
open PySem L2 TR
structure Fr where
  nm:Str
  sg:Str
  br:List Str
abbrev names (G:List Fr):List Str:=G.map Fr.nm
noncomputable def rg (G:List Fr) (n:Str):Option Fr:=G.find? fun f=>decide (f.nm=n)
theorem rf {G:List Fr} {n:Str} {f:Fr} (h:rg G n=some f):f ∈ G/\f.nm=n:=⟨List.mem_of_find?_eq_some h,by simpa using List.find?_some h⟩
theorem gR:∀ {G:List Fr},(names G).Nodup->∀ {f:Fr},f ∈ G->rg G f.nm=some f
  | [],_,f,h=>nomatch h
  | g::G,hn,f,h=>by
    unfold rg
    rw[List.find?_cons]
    have hc:g.nm ∉ names G/\(names G).Nodup:=List.nodup_cons.mp hn
    rcases List.mem_cons.mp h with rfl | h
    · simp
    · have ne:¬ g.nm=f.nm:=fun e=>hc.1 (by rw[e];exact List.mem_map.mpr ⟨f,h,rfl⟩)
      rw[decide_eq_false ne]
      exact gR hc.2 h
mutual
noncomputable def fit (G:List Fr):Tr->Option Str
  | .node nm _ bs=>(rg G nm).bind fun f=>(dQ G bs).bind fun ss=>if ss=f.br then some f.sg else none
noncomputable def dQ (G:List Fr):List Tr->Option (List Str)
  | []=>some []
  | t::ts=>(fit G t).bind fun s=>(dQ G ts).bind fun ss=>some (s::ss)
end
theorem sj (G:List Fr) (t:Tr):fit G t=(rg G t.nm).bind fun f=>(dQ G t.bs).bind fun ss=>if ss=f.br then some f.sg else none:=by cases t;rw[fit];rfl
theorem gQ {G:List Fr} {t:Tr} {s:Str} (h:fit G t=some s):∃ f,rg G t.nm=some f/\dQ G t.bs=some f.br/\f.sg=s:=by
  rw[sj] at h
  cases hf:rg G t.nm with
  | none=>rw[hf] at h;cases h
  | some f=>
    rw[hf] at h
    cases hs:dQ G t.bs with
    | none=>rw[hs] at h;cases h
    | some ss=>
      rw[hs] at h
      have h:(if ss=f.br then some f.sg else none)=some s:=h
      split at h
      · rename_i e
        cases h
        exact⟨f,rfl,by rw[e],rfl⟩
      · cases h
theorem oV {G:List Fr} {t:Tr} {f:Fr} (h:rg G t.nm=some f) (hb:dQ G t.bs=some f.br):fit G t=some f.sg:=by
  rw[sj,h,hb]
  show (if f.br=f.br then some f.sg else none)=_
  rw[if_pos rfl]
theorem kf:∀ {G:List Fr} {ts:List Tr} {ss:List Str},dQ G ts=some ss->ss.length=ts.length
  | G,[],ss,h=>by rw[dQ] at h;cases h;rfl
  | G,t::ts,ss,h=>by
    rw[dQ] at h
    cases h1:fit G t with
    | none=>rw[h1] at h;cases h
    | some s=>
      rw[h1] at h
      cases h2:dQ G ts with
      | none=>rw[h2] at h;cases h
      | some r=>
        rw[h2] at h
        cases h
        rw[List.length_cons,List.length_cons,kf h2]
theorem iE {G:List Fr} {t:Tr} {ts:List Tr} {s:Str} {ss:List Str} (h:fit G t=some s) (hs:dQ G ts=some ss):dQ G (t::ts)=some (s::ss):=by
  rw[dQ,h,hs]
  rfl
theorem ju:∀ {G:List Fr} {ts:List Tr} {ss:List Str} {i:Nat} {t:Tr},dQ G ts=some ss->ts[i]?=some t->∃ s,fit G t=some s/\ss[i]?=some s
  | G,[],ss,i,t,h,hi=>by simp at hi
  | G,u::ts,ss,i,t,h,hi=>by
    rw[dQ] at h
    cases h1:fit G u with
    | none=>rw[h1] at h;cases h
    | some s=>
      rw[h1] at h
      cases h2:dQ G ts with
      | none=>rw[h2] at h;cases h
      | some r=>
        rw[h2] at h
        cases h
        cases i with
        | zero=>
          simp at hi
          subst hi
          exact⟨s,h1,rfl⟩
        | succ i=>
          obtain⟨x,a,b⟩:=ju h2 (show ts[i]?=some t by simpa using hi)
          exact⟨x,a,by simpa using b⟩
theorem sk:∀ {G:List Fr} {p:List Int} {t u:Tr} {s:Str},fit G t=some s->atT p t=some u->∃ su,fit G u=some su
  | G,[],t,u,s,h,e=>by cases e;exact⟨s,h⟩
  | G,k::p,t,u,s,h,e=>by
    obtain⟨_,_,c,hc,_,e'⟩:=dA e
    obtain⟨f,_,hb,_⟩:=gQ h
    obtain⟨sc,h1,_⟩:=ju hb hc
    exact sk h1 e'
theorem eR:∀ (ts us:List Tr),be (ts++us)=be ts+be us
  | [],us=>by rw[List.nil_append,be];omega
  | t::ts,us=>by rw[List.cons_append,be,be,eR ts us];omega
end FT
namespace SP
open PySem L2 TR FT
open TM
abbrev bJ:=List Int × Str
noncomputable def rZ (f:Fm):Fr:=⟨f.nm,f.hd,f.br⟩
noncomputable def frs (g:Gr):List Fr:=g.fm.map rZ
noncomputable def fmT (g:Gr) (n:Str):Fm:=(g.fm.find? fun f=>decide (f.nm=n)).getD ⟨n,n,[],[]⟩
noncomputable def sgT (g:Gr) (n:Str):Sg:=(g.sg.find? fun s=>decide (s.nm=n)).getD ⟨n,[],[]⟩
noncomputable def sgn (g:Gr) (u:Tr):Sg:=sgT g (fmT g u.nm).hd
noncomputable def vx (s:Sg):List Str:=s.dn.map Prod.fst
noncomputable def pM (s:Sg):List Str:=s.up.map Prod.fst
noncomputable def cY (s:Sg):List Str:=(s.dn++s.up).map Prod.fst
theorem dG (s:Sg):cY s=vx s++pM s:=List.map_append
noncomputable def keyR (r:Ru):Int × Str:=(r.k,r.nm)
def Due (g:Gr) (f:Fm) (k:Int) (n:Str):Prop:=(k=0/\n ∈ pM (sgT g f.hd))\/∃ (i:Nat) (b:Str),f.br[i]?=some b/\k=(i:Int)+1/\n ∈ vx (sgT g b)
structure GrF (g:Gr):Prop where
  sn:(g.sg.map Sg.nm).Nodup
  fn:(g.fm.map Fm.nm).Nodup
  ls:g.sg.length <= 10
  lf:g.fm.length <= 10
  vn:∀ s ∈ g.sg,(cY s).Nodup
  vl:∀ s ∈ g.sg,s.dn.length <= 2/\s.up.length <= 2
  hd:∀ f ∈ g.fm,∃ s ∈ g.sg,s.nm=f.hd
  br:∀ f ∈ g.fm,f.br.length <= 3/\∀ b ∈ f.br,∃ s ∈ g.sg,s.nm=b
  rn:∀ f ∈ g.fm,(f.ru.map keyR).Nodup
  rl:∀ f ∈ g.fm,f.ru.length <= 10
  rd:∀ f ∈ g.fm,∀ k n,(k,n) ∈ f.ru.map keyR ↔ Due g f k n
noncomputable def tmT (f:Fm) (k:Int) (n:Str):Tm:=((f.ru.find? fun r=>decide (keyR r=(k,n))).map Ru.tm).getD .mark
noncomputable def bT (p:List Int) (q:Pr):bJ:=(if q.1=0 then p else p++[q.1],q.2)
noncomputable def uD (p:List Int) (t:Tm):List bJ:=(named t).map (bT p)
noncomputable def bG (g:Gr) (xs:List (List Int × Tr)):List bJ:=xs.flatMap fun x=>(cY (sgn g x.2)).map fun n=>(x.1,n)
noncomputable def aE (g:Gr) (t:Tr):List bJ:=bG g (nds [] t)
noncomputable def bf (g:Gr) (t:Tr) (sp:bJ):List bJ:=
  match atT sp.1 t with
  | none=>[]
  | some u=>if sp.2 ∈ pM (sgn g u) then uD sp.1 (tmT (fmT g u.nm) 0 sp.2) else
    match sp.1.getLast? with
    | none=>[]
    | some k=>match atT sp.1.dropLast t with
      | none=>[]
      | some v=>uD sp.1.dropLast (tmT (fmT g v.nm) k sp.2)
theorem gS {α β:Type} [DecidableEq β] (f:α->β):∀ {l:List α},(l.map f).Nodup->∀ {a:α},a ∈ l->l.find? (fun x=>decide (f x=f a))=some a
  | [],_,a,h=>nomatch h
  | b::l,hn,a,h=>by
    rw[List.find?_cons]
    have hc:=List.nodup_cons.mp (show (f b::l.map f).Nodup from hn)
    rcases List.mem_cons.mp h with rfl | h
    · simp
    · have ne:¬ f b=f a:=fun e=>hc.1 (by rw[e];exact List.mem_map.mpr ⟨a,h,rfl⟩)
      rw[decide_eq_false ne]
      exact gS f hc.2 h
theorem si {g:Gr} (h:(g.fm.map Fm.nm).Nodup) {f:Fm} (m:f ∈ g.fm):fmT g f.nm=f:=by unfold fmT;rw[gS Fm.nm h m];rfl
theorem nq {g:Gr} (h:(g.sg.map Sg.nm).Nodup) {s:Sg} (m:s ∈ g.sg):sgT g s.nm=s:=by unfold sgT;rw[gS Sg.nm h m];rfl
theorem mR {f:Fm} (h:(f.ru.map keyR).Nodup) {r:Ru} (m:r ∈ f.ru):tmT f r.k r.nm=r.tm:=by
  unfold tmT
  have:=gS keyR h m
  rw[show (fun x=>decide (keyR x=keyR r))=(fun x=>decide (keyR x=(r.k,r.nm))) from rfl] at this
  rw[this]
  rfl
theorem GrF.sm {g:Gr} (h:GrF g) {n:Str} (e:∃ s ∈ g.sg,s.nm=n):sgT g n ∈ g.sg/\(sgT g n).nm=n:=by
  obtain⟨s,m,rfl⟩:=e
  rw[nq h.sn m]
  exact⟨m,rfl⟩
theorem oW {g:Gr} {n:Str} {x:Fr} (h:rg (frs g) n=some x):∃ f ∈ g.fm,x=rZ f/\f.nm=n:=by
  obtain⟨m,e⟩:=rf h
  obtain⟨f,hf,rfl⟩:=List.mem_map.mp m
  exact⟨f,hf,rfl,e⟩
theorem cf {g:Gr} (G:GrF g) {t u:Tr} {s:Str} {p:List Int} (h:fit (frs g) t=some s) (hu:atT p t=some u) :
    fmT g u.nm ∈ g.fm/\(fmT g u.nm).nm=u.nm/\dQ (frs g) u.bs=some (fmT g u.nm).br:=by
  obtain⟨su,hs⟩:=sk h hu
  obtain⟨x,hx,hb,_⟩:=gQ hs
  obtain⟨f,m,rfl,e⟩:=oW hx
  rw[<- e,si G.fn m]
  exact⟨m,rfl,hb⟩
theorem xf {g:Gr} (G:GrF g) {u:Tr} {s:Str} (h:fit (frs g) u=some s):(fmT g u.nm).hd=s:=by
  obtain⟨x,hx,hb,rfl⟩:=gQ h
  obtain⟨f,m,rfl,e⟩:=oW hx
  rw[<- e,si G.fn m]
  rfl
theorem bX {g:Gr} (G:GrF g) {t u:Tr} {s:Str} {p:List Int} (h:fit (frs g) t=some s) (hu:atT p t=some u):sgn g u ∈ g.sg/\(sgn g u).nm=(fmT g u.nm).hd:=G.sm (G.hd _ (cf G h hu).1)
theorem vo {u c:Tr} {k:Int} (h:atT [k] u=some c):1 <= k/\k <= u.bs.length/\u.bs[(k - 1).toNat]?=some c:=by
  obtain⟨h1,h2,c',h3,_,h4⟩:=dA h
  cases h4
  exact⟨h1,h2,h3⟩
theorem uh {u c:Tr} {i:Nat} (h:u.bs[i]?=some c):atT [(i:Int)+1] u=some c:=by
  unfold atT
  rw[if_pos (by omega),show ((i:Int)+1 - 1).toNat=i by omega,h]
  rfl
theorem nh {t c:Tr} {p:List Int} {k:Int} (h:atT (p++[k]) t=some c):∃ u,atT p t=some u/\1 <= k/\k <= u.bs.length/\u.bs[(k - 1).toNat]?=some c:=by
  rw[dO] at h
  cases hu:atT p t with
  | none=>rw[hu] at h;cases h
  | some u=>
    rw[hu] at h
    exact⟨u,rfl,vo h⟩
theorem vk {t u c:Tr} {p:List Int} {i:Nat} (hu:atT p t=some u) (hc:u.bs[i]?=some c):atT (p++[(i:Int)+1]) t=some c:=by
  rw[dO,hu]
  exact uh hc
theorem fG {g:Gr} (G:GrF g) {t u c:Tr} {s:Str} {p:List Int} {i:Nat} (h:fit (frs g) t=some s) (hu:atT p t=some u) (hc:u.bs[i]?=some c):∃ b,(fmT g u.nm).br[i]?=some b/\(fmT g c.nm).hd=b/\sgn g c=sgT g b:=by
  obtain⟨_,_,hb⟩:=cf G h hu
  obtain⟨b,h1,h2⟩:=ju hb hc
  have e:=xf G h1
  exact⟨b,h2,e,by unfold sgn;rw[e]⟩
theorem rV:∀ (r:List Int) {t u:Tr} {p:List Int},atT r t=some u->(p++r,u) ∈ nds p t
  | [],t,u,p,h=>by
    cases h
    rw[List.append_nil,jX]
    exact List.mem_cons_self
  | k::r,t,u,p,h=>by
    obtain⟨h1,h2,c,hc,_,hr⟩:=dA h
    have:=rV r (p:=p++[k]) hr
    rw[List.append_assoc,List.singleton_append] at this
    rw[jX,jg]
    refine List.mem_cons_of_mem _ (List.mem_flatMap.mpr ⟨(p++[k],c),?_,this⟩)
    have e:=fc p t.bs 1 hc
    rw[show 1+(((k - 1).toNat:Nat):Int)=k by omega] at e
    exact List.mem_of_getElem? e
theorem nds_iff {t u:Tr} {p:List Int}:(p,u) ∈ nds [] t ↔ atT p t=some u:=by
  constructor
  · intro h
    obtain⟨r,e,h'⟩:=oo t h
    rw[e]
    exact h'
  · intro h
    exact rV p (p:=[]) h
theorem mem_spots {g:Gr} {t:Tr} {sp:bJ}:sp ∈ aE g t ↔ ∃ u,atT sp.1 t=some u/\sp.2 ∈ cY (sgn g u):=by
  unfold aE bG
  rw[List.mem_flatMap]
  constructor
  · rintro⟨⟨p,u⟩,hm,hn⟩
    obtain⟨n,h1,rfl⟩:=List.mem_map.mp hn
    exact⟨u,nds_iff.mp hm,h1⟩
  · rintro⟨u,h1,h2⟩
    exact⟨(sp.1,u),nds_iff.mpr h1,List.mem_map.mpr ⟨sp.2,h2,rfl⟩⟩
theorem jT {g:Gr} {t u:Tr} {p:List Int} {n:Str} (hu:atT p t=some u) (hn:n ∈ pM (sgn g u)):bf g t (p,n)=uD p (tmT (fmT g u.nm) 0 n):=by
  unfold bf
  simp only[hu]
  rw[if_pos hn]
theorem fX {g:Gr} {t:Tr} {n:Str} (hn:n ∉ pM (sgn g t)):bf g t ([],n)=[]:=by
  unfold bf
  simp only[show atT [] t=some t from rfl]
  rw[if_neg hn]
  rfl
theorem jU {g:Gr} {t u c:Tr} {p:List Int} {k:Int} {n:Str} (hc:atT (p++[k]) t=some c) (hu:atT p t=some u) (hn:n ∉ pM (sgn g c)):bf g t (p++[k],n)=uD p (tmT (fmT g u.nm) k n):=by
  unfold bf
  simp only[hc]
  rw[if_neg hn]
  simp only[List.getLast?_append,List.getLast?_singleton,List.dropLast_concat,hu]
  rfl
theorem pi {s:Sg} (h:(cY s).Nodup) {n:Str} (hn:n ∈ vx s):n ∉ pM s:=fun hu=>by
  rw[dG] at h
  exact (List.nodup_append.mp h).2.2 n hn n hu rfl
theorem pd {g:Gr} (G:GrF g) {t u:Tr} {s:Str} {p:List Int} {r:Ru} (h:fit (frs g) t=some s) (hu:atT p t=some u) (hr:r ∈ (fmT g u.nm).ru):bT p (keyR r) ∈ aE g t/\bf g t (bT p (keyR r))=uD p r.tm:=by
  obtain⟨fm,fn,fb⟩:=cf G h hu
  have et:=mR (G.rn _ fm) hr
  rcases (G.rd _ fm r.k r.nm).mp (List.mem_map.mpr ⟨r,hr,rfl⟩) with ⟨e,hn⟩ | ⟨i,b,hb,e,hn⟩
  · have es:bT p (keyR r)=(p,r.nm):=by
      unfold bT keyR
      rw[if_pos e]
    rw[es]
    refine⟨mem_spots.mpr ⟨u,hu,?_⟩,?_⟩
    · rw[dG]
      exact List.mem_append_right _ hn
    · rw[jT hu hn,<- et,e]
  · have hl:=kf fb
    obtain⟨c,hc⟩:=aH (xs:=u.bs) (i:=i) (by have:=aD hb;omega)
    obtain⟨b',hb',_,es⟩:=fG G h hu hc
    rw[hb] at hb'
    cases hb'
    have hat:=vk hu hc
    have e2:bT p (keyR r)=(p++[(i:Int)+1],r.nm):=by
      unfold bT keyR
      rw[if_neg (show ¬ r.k=0 by omega),e]
    have bm:=G.sm ((G.br _ fm).2 b (List.mem_of_getElem? hb))
    rw[e2]
    refine⟨mem_spots.mpr ⟨c,hat,?_⟩,?_⟩
    · rw[dG,es]
      exact List.mem_append_left _ hn
    · rw[jU hat hu (by rw[es];exact pi (G.vn _ bm.1) hn),<- et,e]
theorem kg {g:Gr} (G:GrF g) {t:Tr} {s:Str} {sp:bJ} (h:fit (frs g) t=some s) (hs:sp ∈ aE g t):bf g t sp=[]\/∃ p u r,atT p t=some u/\r ∈ (fmT g u.nm).ru/\bT p (keyR r)=sp:=by
  obtain⟨p,n⟩:=sp
  obtain⟨u,hu,hn⟩:=mem_spots.mp hs
  obtain⟨fm,fn,fb⟩:=cf G h hu
  by_cases hup:n ∈ pM (sgn g u)
  · obtain⟨r,hr,e⟩:=List.mem_map.mp ((G.rd _ fm 0 n).mpr (.inl ⟨rfl,hup⟩))
    refine .inr ⟨p,u,r,hu,hr,?_⟩
    rw[e]
    unfold bT
    rw[if_pos rfl]
  · have hdn:n ∈ vx (sgn g u):=by
      have hn:n ∈ cY (sgn g u):=hn
      rw[dG] at hn
      exact (List.mem_append.mp hn).resolve_right hup
    cases hp:p.reverse with
    | nil=>
      have:p=[]:=List.reverse_eq_nil_iff.mp hp
      subst this
      cases hu
      exact .inl (fX hup)
    | cons k q=>
      have:p=q.reverse++[k]:=by rw[<- List.reverse_reverse p,hp,List.reverse_cons]
      subst this
      obtain⟨v,hv,k1,k2,hc⟩:=nh hu
      obtain⟨b,hb,_,es⟩:=fG G h hv hc
      obtain⟨vm,_,_⟩:=cf G h hv
      obtain⟨r,hr,e⟩:=List.mem_map.mp ((G.rd _ vm k n).mpr (.inr ⟨(k - 1).toNat,b,hb,by omega,by rw[<- es];exact hdn⟩))
      refine .inr ⟨q.reverse,v,r,hv,hr,?_⟩
      rw[e]
      unfold bT
      rw[if_neg (show ¬ k=0 by omega)]
end SP
namespace SP
open PySem L2 TR FT
open TM
theorem pig {α:Type} [DecidableEq α]:∀ {l used:List α},l.Nodup->(∀ x ∈ l,x ∈ used)->l.length <= used.length
  | [],used,_,_=>Nat.zero_le _
  | x::l,used,nd,h=>by
    obtain⟨nx,nd'⟩:=List.nodup_cons.mp nd
    have hx:=h x (by simp)
    have:=pig (used:=used.erase x) nd' fun y hy=>(List.mem_erase_of_ne (fun z=>nx (by rw[<- z];exact hy))).mpr (h y (by simp[hy]))
    rw[List.length_erase_of_mem hx] at this
    have:=List.length_pos_of_mem hx
    rw[List.length_cons]
    omega
theorem eC:∀ (ts:List Tr) {k:Int} {p:List Int},p ∈ bI k ts->∃ j r,p=j::r/\k <= j
  | [],k,p,h=>by rw[bI] at h;cases h
  | t::ts,k,p,h=>by
    rw[bI] at h
    rcases List.mem_append.mp h with h | h
    · obtain⟨q,_,rfl⟩:=List.mem_map.mp h
      exact⟨k,q,rfl,Int.le_refl _⟩
    · obtain⟨j,r,e,h2⟩:=eC ts h
      exact⟨j,r,e,by omega⟩
mutual
theorem nQ:∀ t:Tr,(gA t).Nodup
  | .node nm mk bs=>by
    rw[gA]
    refine List.nodup_cons.mpr ⟨fun h=>?_,jO bs 1⟩
    obtain⟨_,_,e,_⟩:=eC bs h
    cases e
theorem jO:∀ (ts:List Tr) (k:Int),(bI k ts).Nodup
  | [],k=>by rw[bI];exact List.nodup_nil
  | t::ts,k=>by
    rw[bI]
    refine List.nodup_append.mpr ⟨List.pairwise_map.mpr ((nQ t).imp fun h e=>h (List.cons.inj e).2),jO ts (k+1),fun a ha b hb e=>?_⟩
    obtain⟨q,_,rfl⟩:=List.mem_map.mp ha
    obtain⟨j,r,e2,h2⟩:=eC ts hb
    rw[<- e] at e2
    have:=(List.cons.inj e2).1
    omega
end
theorem rW (t:Tr):((nds [] t).map Prod.fst).Nodup:=by rw[oq];exact nQ t
theorem eQ {g:Gr}:∀ {xs:List (List Int × Tr)},(xs.map Prod.fst).Nodup->(∀ x ∈ xs,(cY (sgn g x.2)).Nodup)->(bG g xs).Nodup
  | [],_,_=>List.nodup_nil
  | x::xs,h,hv=>by
    obtain⟨h1,h2⟩:=List.nodup_cons.mp (show (x.1::xs.map Prod.fst).Nodup from h)
    show ((cY (sgn g x.2)).map (fun n=>(x.1,n))++bG g xs).Nodup
    refine List.nodup_append.mpr ⟨List.pairwise_map.mpr ((hv x (by simp)).imp fun h e=>h (Prod.mk.inj e).2),eQ h2 fun y hy=>hv y (by simp[hy]),fun a ha b hb e=>?_⟩
    obtain⟨n,_,rfl⟩:=List.mem_map.mp ha
    unfold bG at hb
    obtain⟨y,hy,hb⟩:=List.mem_flatMap.mp hb
    obtain⟨m,_,rfl⟩:=List.mem_map.mp hb
    exact h1 (by rw[(Prod.mk.inj e).1];exact List.mem_map.mpr ⟨y,hy,rfl⟩)
theorem fP {g:Gr} (G:GrF g) {t:Tr} {s:Str} (h:fit (frs g) t=some s):(aE g t).Nodup:=
  eQ (rW t) fun x hx=>G.vn _ (bX G h (nds_iff.mp (show (x.1,x.2) ∈ nds [] t from hx))).1
theorem eu (g:Gr) (xs ys:List (List Int × Tr)):bG g (xs++ys)=bG g xs++bG g ys:=List.flatMap_append
theorem er (g:Gr) (x:List Int × Tr):bG g [x]=(cY (sgn g x.2)).map fun n=>(x.1,n):=by unfold bG;simp
theorem gm {g:Gr} (G:GrF g) {s:Sg} (h:s ∈ g.sg):(cY s).length <= 4:=by
  have:=G.vl s h
  unfold cY
  rw[List.length_map,List.length_append]
  omega
theorem dk {g:Gr} (G:GrF g):∀ {xs:List (List Int × Tr)},(∀ x ∈ xs,sgn g x.2 ∈ g.sg)->(bG g xs).length <= 4 * xs.length
  | [],_=>Nat.zero_le _
  | x::xs,h=>by
    show ((cY (sgn g x.2)).map (fun n=>(x.1,n))++bG g xs).length <= _
    rw[List.length_append,List.length_map,List.length_cons]
    have h1:=gm G (h x (by simp))
    have h2:=dk G (xs:=xs) fun y hy=>h y (by simp[hy])
    omega
theorem dJ {g:Gr} (G:GrF g) {t:Tr} {s:Str} (h:fit (frs g) t=some s):(aE g t).length <= 4 * size t:=by
  have:=dk G (xs:=nds [] t) fun x hx=>(bX G h (nds_iff.mp (show (x.1,x.2) ∈ nds [] t from hx))).1
  rw[cU] at this
  exact this
noncomputable def eH (g:Gr) (t:Tr) (p:List Int):List Str:=((aE g t).filter fun sp=>decide (sp.1=p)).map Prod.snd
theorem jZ {g:Gr} {t u:Tr} {p:List Int} (hu:atT p t=some u) {n:Str}:n ∈ eH g t p ↔ n ∈ cY (sgn g u):=by
  unfold eH
  rw[List.mem_map]
  constructor
  · rintro⟨sp,h,rfl⟩
    obtain⟨h1,h2⟩:=List.mem_filter.mp h
    obtain⟨v,hv,hn⟩:=mem_spots.mp h1
    have e:sp.1=p:=by simpa using h2
    rw[e,hu] at hv
    cases hv
    exact hn
  · intro h
    exact⟨(p,n),List.mem_filter.mpr ⟨mem_spots.mpr ⟨u,hu,h⟩,by simp⟩,rfl⟩
theorem sS {g:Gr} (G:GrF g) {t:Tr} {s:Str} (h:fit (frs g) t=some s) (p:List Int):(eH g t p).Nodup:=by
  unfold eH
  have key:∀ l:List bJ,l.Nodup->(∀ x ∈ l,x.1=p)->(l.map Prod.snd).Nodup:=fun l=>by
    induction l with
    | nil=>intro _ _;exact List.nodup_nil
    | cons x l ih=>
      intro hn hp
      obtain⟨h1,h2⟩:=List.nodup_cons.mp hn
      refine List.nodup_cons.mpr ⟨fun hm=>?_,ih h2 fun y hy=>hp y (by simp[hy])⟩
      obtain⟨y,hy,e⟩:=List.mem_map.mp hm
      have e1:y.1=x.1:=by rw[hp y (by simp[hy]),hp x (by simp)]
      exact h1 (by rw[<- Prod.ext e1 e];exact hy)
  refine key _ ((fP G h).filter _) fun x hx=>?_
  simpa using (List.mem_filter.mp hx).2
theorem pR {g:Gr} (G:GrF g) {t u:Tr} {s:Str} {p:List Int} (h:fit (frs g) t=some s) (hu:atT p t=some u):(eH g t p).length <= 4:=
  Nat.le_trans (pig (sS G h p) fun n hn=>(jZ hu).mp hn) (gm G (bX G h hu).1)
end SP
namespace SP
open PySem L2
open TM
structure TB (S:List Pr) (d:Nat) (k:Int) (t:Tm):Prop where
  dp:depth t <= d
  pt:bC t <= k
  nm:∀ p ∈ named t,p ∈ S
theorem ow {acc:List Pr} {q p:Pr}:p ∈ cX acc q ↔ p ∈ acc\/p=q:=by
  unfold cX
  split
  · constructor
    · exact .inl
    · rintro (h | rfl)
      · exact h
      · assumption
  · rw[List.mem_append,List.mem_singleton]
theorem ou:∀ {ps acc:List Pr} {p:Pr},p ∈ uni acc ps ↔ p ∈ acc\/p ∈ ps
  | [],acc,p=>by unfold uni;simp
  | q::ps,acc,p=>by
    have:=ou (ps:=ps) (acc:=cX acc q) (p:=p)
    unfold uni at this ⊢
    rw[List.foldl_cons,this,ow,List.mem_cons,or_assoc]
theorem fY:∀ {ts:List Tm} {acc:List Pr} {p:Pr},p ∈ cE acc ts ↔ p ∈ acc\/∃ t ∈ ts,p ∈ named t
  | [],acc,p=>by rw[cE];simp
  | t::ts,acc,p=>by
    rw[cE,fY,ou,or_assoc]
    simp
theorem mem_named_call {w:Str} {ts:List Tm} {p:Pr}:p ∈ named (.call w ts) ↔ ∃ t ∈ ts,p ∈ named t:=by
  rw[named,fY]
  simp
theorem TB.mono {S S':List Pr} {d d':Nat} {k k':Int} {t:Tm} (h:TB S d k t) (hs:∀ p ∈ S,p ∈ S') (hd:d <= d') (hk:k <= k'):TB S' d' k' t:=⟨Nat.le_trans h.dp hd,Int.le_trans h.pt hk,fun p hp=>hs p (h.nm p hp)⟩
theorem TB.le {S:List Pr} {d d':Nat} {k k':Int} {t:Tm} (h:TB S d k t) (hd:d <= d') (hk:k <= k'):TB S d' k' t:=h.mono (fun _ h=>h) hd hk
theorem TB.mark {S:List Pr}:TB S 1 1 .mark:=⟨by rw[depth];decide,by rw[bC];decide,fun p hp=>by rw[named] at hp;cases hp⟩
theorem TB.row {S:List Pr}:TB S 1 1 .row:=⟨by rw[depth];decide,by rw[bC];decide,fun p hp=>by rw[named] at hp;cases hp⟩
theorem TB.num {S:List Pr} {n:Int}:TB S 1 1 (.num n):=⟨by rw[depth];decide,by rw[bC];decide,fun p hp=>by rw[named] at hp;cases hp⟩
theorem TB.text {S:List Pr} {z:Str}:TB S 1 1 (.text z):=⟨by rw[depth];decide,by rw[bC];decide,fun p hp=>by rw[named] at hp;cases hp⟩
theorem TB.val {S:List Pr} {k:Int} {z:Str} (h:(k,z) ∈ S):TB S 1 1 (.val k z):=⟨by rw[depth];decide,by rw[bC];decide,fun p hp=>by
  rw[named,List.mem_singleton] at hp
  rw[hp]
  exact h⟩
theorem TB.call1 {S:List Pr} {d:Nat} {k:Int} {w:Str} {t:Tm} (h:TB S d k t):TB S (1+d) (1+k) (.call w [t]):=⟨by
  rw[depth,cj,cj]
  have:=h.dp
  omega,by
  rw[bC,bn,bn]
  have:=h.pt
  omega,fun p hp=>by
  obtain⟨x,hx,h2⟩:=mem_named_call.mp hp
  rw[List.mem_singleton.mp hx] at h2
  exact h.nm p h2⟩
theorem TB.call2 {S:List Pr} {d e:Nat} {k l:Int} {w:Str} {t u:Tm} (h:TB S d k t) (g:TB S e l u):TB S (1+max d e) (1+k+l) (.call w [t,u]):=⟨by
  rw[depth,cj,cj,cj]
  have:=h.dp
  have:=g.dp
  omega,by
  rw[bC,bn,bn,bn]
  have:=h.pt
  have:=g.pt
  omega,fun p hp=>by
  obtain⟨x,hx,h2⟩:=mem_named_call.mp hp
  simp only[List.mem_cons,List.mem_nil_iff,or_false] at hx
  rcases hx with rfl | rfl
  · exact h.nm p h2
  · exact g.nm p h2⟩
theorem TB.call3 {S:List Pr} {d e f:Nat} {k l m:Int} {w:Str} {t u v:Tm} (h:TB S d k t) (g:TB S e l u) (i:TB S f m v):TB S (1+max d (max e f)) (1+k+l+m) (.call w [t,u,v]):=⟨by
  rw[depth,cj,cj,cj,cj]
  have:=h.dp
  have:=g.dp
  have:=i.dp
  omega,by
  rw[bC,bn,bn,bn,bn]
  have:=h.pt
  have:=g.pt
  have:=i.pt
  omega,fun p hp=>by
  obtain⟨x,hx,h2⟩:=mem_named_call.mp hp
  simp only[List.mem_cons,List.mem_nil_iff,or_false] at hx
  rcases hx with rfl | rfl | rfl
  · exact h.nm p h2
  · exact g.nm p h2
  · exact i.nm p h2⟩
end SP
namespace K41
open PySem L2
set_option genInjectivity false
set_option genSizeOf false
theorem bd1 {K:W.Frag} {x qual:Str} {st:Stmt} {f:Addr} {fd:FuncData} {ps:List Str} (F:Fun K x qual st f fd) (hl:ps.length=1) (h:∀ (kV doc pm:Value) (an:Option Addr) (cdv ct:Value) (a:Value),bindArgs (PySem.W.fnOf x qual (aB st) (aA st) (ah st) .none kV doc pm an cdv ct) ⟨[a],[]⟩=pure (ps.zip [a])):Binds K fd ps []:=F.binds fun kV doc pm an cdv ct us e=>by
 rw[hl] at e
 match us,e with
 | [a],_=>exact h kV doc pm an cdv ct a
theorem bd2 {K:W.Frag} {x qual:Str} {st:Stmt} {f:Addr} {fd:FuncData} {ps:List Str} (F:Fun K x qual st f fd) (hl:ps.length=2) (h:∀ (kV doc pm:Value) (an:Option Addr) (cdv ct:Value) (a b:Value),bindArgs (PySem.W.fnOf x qual (aB st) (aA st) (ah st) .none kV doc pm an cdv ct) ⟨[a,b],[]⟩=pure (ps.zip [a,b])):Binds K fd ps []:=F.binds fun kV doc pm an cdv ct us e=>by
 rw[hl] at e
 match us,e with
 | [a,b],_=>exact h kV doc pm an cdv ct a b
theorem bd3 {K:W.Frag} {x qual:Str} {st:Stmt} {f:Addr} {fd:FuncData} {ps:List Str} (F:Fun K x qual st f fd) (hl:ps.length=3) (h:∀ (kV doc pm:Value) (an:Option Addr) (cdv ct:Value) (a b c:Value),bindArgs (PySem.W.fnOf x qual (aB st) (aA st) (ah st) .none kV doc pm an cdv ct) ⟨[a,b,c],[]⟩=pure (ps.zip [a,b,c])):Binds K fd ps []:=F.binds fun kV doc pm an cdv ct us e=>by
 rw[hl] at e
 match us,e with
 | [a,b,c],_=>exact h kV doc pm an cdv ct a b c
theorem bd4 {K:W.Frag} {x qual:Str} {st:Stmt} {f:Addr} {fd:FuncData} {ps:List Str} (F:Fun K x qual st f fd) (hl:ps.length=4) (h:∀ (kV doc pm:Value) (an:Option Addr) (cdv ct:Value) (a b c d:Value),bindArgs (PySem.W.fnOf x qual (aB st) (aA st) (ah st) .none kV doc pm an cdv ct) ⟨[a,b,c,d],[]⟩=pure (ps.zip [a,b,c,d])):Binds K fd ps []:=F.binds fun kV doc pm an cdv ct us e=>by
 rw[hl] at e
 match us,e with
 | [a,b,c,d],_=>exact h kV doc pm an cdv ct a b c d
theorem bd5 {K:W.Frag} {x qual:Str} {st:Stmt} {f:Addr} {fd:FuncData} {ps:List Str} (F:Fun K x qual st f fd) (hl:ps.length=5) (h:∀ (kV doc pm:Value) (an:Option Addr) (cdv ct:Value) (a b c d g:Value),bindArgs (PySem.W.fnOf x qual (aB st) (aA st) (ah st) .none kV doc pm an cdv ct) ⟨[a,b,c,d,g],[]⟩=pure (ps.zip [a,b,c,d,g])):Binds K fd ps []:=F.binds fun kV doc pm an cdv ct us e=>by
 rw[hl] at e
 match us,e with
 | [a,b,c,d,g],_=>exact h kV doc pm an cdv ct a b c d g
noncomputable def top (i:Nat):Stmt:=PySem.Challenge.pw_leafsay_k41_needs.main.body.getD i (.Pass ⟨0,0,0,0⟩)
abbrev vw:Stmt:=top 13
abbrev kP:Stmt:=top 14
abbrev kY:Stmt:=top 16
abbrev lE:Stmt:=top 17
abbrev lC:Stmt:=top 18
abbrev lA:Stmt:=top 19
abbrev kT:Stmt:=top 21
abbrev lK:Stmt:=top 22
abbrev lh:Stmt:=top 24
abbrev kR:Stmt:=top 25
abbrev lD:Stmt:=top 26
abbrev lx:Stmt:=top 27
abbrev lL:Stmt:=top 28
abbrev kS:Stmt:=top 29
abbrev kK:Stmt:=top 31
abbrev kF:Stmt:=top 32
abbrev kU:Stmt:=top 33
abbrev lj:Stmt:=top 34
abbrev kN:Stmt:=top 35
abbrev kL:Stmt:=top 36
abbrev kG:Stmt:=top 37
abbrev vv:Stmt:=top 38
abbrev lF:Stmt:=top 39
abbrev kX:Stmt:=top 40
abbrev lH:Stmt:=top 41
abbrev kI:Stmt:=top 42
abbrev kO:Stmt:=top 43
abbrev lB:Stmt:=top 44
abbrev kZ:Stmt:=top 45
abbrev kH:Stmt:=top 46
abbrev kM:Stmt:=top 47
abbrev kQ:Stmt:=top 48
abbrev kJ:Stmt:=top 49
abbrev lM:Stmt:=top 50
abbrev kE:Stmt:=top 51
abbrev kW:Stmt:=top 52
abbrev lJ:Stmt:=top 53
abbrev lI:Stmt:=top 54
abbrev lN:Stmt:=top 55
abbrev lO:Stmt:=top 56
theorem xQ:aF ["term"] ["term"] (ah vw):=⟨rfl,rfl,rfl,by decide +kernel,rfl,by decide +kernel,by decide +kernel⟩
theorem sc_qAZ:aF ["term", "found", "inner", "pair"] ["term"] (ah kP):=⟨rfl,rfl,rfl,by decide +kernel,rfl,by decide +kernel,by decide +kernel⟩
theorem sc_qAR:aF ["rows", "name", "row"] ["rows", "name"] (ah kY):=⟨rfl,rfl,rfl,by decide +kernel,rfl,by decide +kernel,by decide +kernel⟩
theorem we:aF ["grammar", "name"] ["grammar", "name"] (ah lE):=⟨rfl,rfl,rfl,by decide +kernel,rfl,by decide +kernel,by decide +kernel⟩
theorem wd:aF ["grammar", "name"] ["grammar", "name"] (ah lC):=⟨rfl,rfl,rfl,by decide +kernel,rfl,by decide +kernel,by decide +kernel⟩
theorem sc_qAM:aF ["form", "k", "name", "rule"] ["form", "k", "name"] (ah lA):=⟨rfl,rfl,rfl,by decide +kernel,rfl,by decide +kernel,by decide +kernel⟩
theorem sc_qAV:aF ["tree", "found", "k", "branch"] ["tree"] (ah kT):=⟨rfl,rfl,rfl,by decide +kernel,rfl,by decide +kernel,by decide +kernel⟩
theorem sc_qAD:aF ["tree", "path", "node", "k"] ["tree", "path"] (ah lK):=⟨rfl,rfl,rfl,by decide +kernel,rfl,by decide +kernel,by decide +kernel⟩
theorem wc:aF ["grammar", "tree", "path"] ["grammar", "tree", "path"] (ah lh):=⟨rfl,rfl,rfl,by decide +kernel,rfl,by decide +kernel,by decide +kernel⟩
theorem sc_qAX:aF ["grammar", "tree", "found", "path", "sign"] ["grammar", "tree"] (ah kR):=⟨rfl,rfl,rfl,by decide +kernel,rfl,by decide +kernel,by decide +kernel⟩
theorem sc_qAJ:aF ["grammar", "tree", "path", "k", "name", "node"] ["grammar", "tree", "path", "k", "name"] (ah lD):=⟨rfl,rfl,rfl,by decide +kernel,rfl,by decide +kernel,by decide +kernel⟩
theorem sc_qAN:aF ["grammar", "tree", "spot", "path", "name", "sign"] ["grammar", "tree", "spot"] (ah lx):=⟨rfl,rfl,rfl,by decide +kernel,rfl,by decide +kernel,by decide +kernel⟩
theorem wf:aF ["path", "pair"] ["path", "pair"] (ah lL):=⟨rfl,rfl,rfl,by decide +kernel,rfl,by decide +kernel,by decide +kernel⟩
theorem sc_qAW:aF ["grammar", "tree", "spot", "rule"] ["grammar", "tree", "spot"] (ah kS):=⟨rfl,rfl,rfl,by decide +kernel,rfl,by decide +kernel,by decide +kernel⟩
theorem sc_qBE:aF ["_law_script", "_law_many_here", "_law_found", "_law_seed", "_law_cell"] ["_law_script", "_law_many_here"] (ah kK):=⟨rfl,rfl,rfl,by decide +kernel,rfl,by decide +kernel,by decide +kernel⟩
theorem sc_qBK:aF ["_law_cell", "_law_k", "_law_letters", "_law_long", "_law_at", "_law_fill"] ["_law_cell", "_law_k"] (ah kF):=⟨rfl,rfl,rfl,by decide +kernel,rfl,by decide +kernel,by decide +kernel⟩
theorem sc_qAU:aF ["_law_deck_here", "_law_word_here", "_law_kinds", "_law_found", "_law_k", "_law_cell", "_law_near", "_law_downs", "_law_ups"] ["_law_deck_here"] (ah kU):=⟨rfl,rfl,rfl,by decide +kernel,rfl,by decide +kernel,by decide +kernel⟩
theorem sc_qAO:aF ["_law_signs_here", "_law_at", "_law_found", "_law_k", "_law_side", "_law_some", "_law_j", "_law_rank"] ["_law_signs_here", "_law_at"] (ah lj):=⟨rfl,rfl,rfl,by decide +kernel,rfl,by decide +kernel,by decide +kernel⟩
theorem sc_qBB:aF ["_law_kind", "_law_one", "_law_spot_here"] ["_law_kind", "_law_one"] (ah kN):=⟨rfl,rfl,rfl,by decide +kernel,rfl,by decide +kernel,by decide +kernel⟩
theorem wa:aF ["_law_kind", "_law_cell"] ["_law_kind", "_law_cell"] (ah kL):=⟨rfl,rfl,rfl,by decide +kernel,rfl,by decide +kernel,by decide +kernel⟩
theorem sc_qBI:aF ["_law_kind", "_law_some", "_law_cell", "_law_made", "_law_one", "_law_pair", "_law_deed"] ["_law_kind", "_law_some", "_law_cell"] (ah kG):=⟨rfl,rfl,rfl,by decide +kernel,rfl,by decide +kernel,by decide +kernel⟩
theorem sc_qB:aF ["_law_signs_here", "_law_name", "_law_at", "_law_deck_here", "_law_some", "_law_rules", "_law_one", "_law_cell", "_law_low", "_law_drawn", "_law_turn"] ["_law_signs_here", "_law_name", "_law_at", "_law_deck_here"] (ah vv):=⟨rfl,rfl,rfl,by decide +kernel,rfl,by decide +kernel,by decide +kernel⟩
theorem sc_qAH:aF ["_law_deck_here", "_law_signs_here", "_law_shapes", "_law_k", "_law_cell", "_law_word_here", "_law_forms"] ["_law_deck_here"] (ah lF):=⟨rfl,rfl,rfl,by decide +kernel,rfl,by decide +kernel,by decide +kernel⟩
theorem sc_qAS:aF ["_law_grammar_here", "_law_sign", "_law_deck_here", "_law_room", "_law_some", "_law_form_here", "_law_cell", "_law_mark"] ["_law_grammar_here", "_law_sign", "_law_deck_here", "_law_room"] (ah kX):=⟨rfl,rfl,rfl,by decide +kernel,rfl,by decide +kernel,by decide +kernel⟩
theorem sc_qAG:aF ["_law_cell", "_law_a", "_law_c", "_law_sign", "_law_names", "_law_leaf", "_law_three", "_law_forms"] ["_law_cell"] (ah lH):=⟨rfl,rfl,rfl,by decide +kernel,rfl,by decide +kernel,by decide +kernel⟩
theorem sc_qBG:aF ["_law_forms", "_law_many_here", "_law_cell", "_law_share", "_law_some"] ["_law_forms", "_law_many_here", "_law_cell"] (ah kI):=⟨rfl,rfl,rfl,by decide +kernel,rfl,by decide +kernel,by decide +kernel⟩
theorem sc_qBA:aF ["_law_deck_here", "_law_cell", "_law_grammar_here", "_law_root"] ["_law_deck_here"] (ah kO):=⟨rfl,rfl,rfl,by decide +kernel,rfl,by decide +kernel,by decide +kernel⟩
theorem sc_qAL:aF ["_law_term_here", "_law_found", "_law_one"] ["_law_term_here"] (ah lB):=⟨rfl,rfl,rfl,by decide +kernel,rfl,by decide +kernel,by decide +kernel⟩
theorem sc_qAQ:aF ["_law_tree", "_law_found", "_law_left", "_law_path", "_law_node", "_law_k"] ["_law_tree"] (ah kZ):=⟨rfl,rfl,rfl,by decide +kernel,rfl,by decide +kernel,by decide +kernel⟩
theorem vZ:aF ["_law_path", "_law_k", "_law_name"] ["_law_path", "_law_k", "_law_name"] (ah kH):=⟨rfl,rfl,rfl,by decide +kernel,rfl,by decide +kernel,by decide +kernel⟩
theorem sc_qBC:aF ["_law_grammar_here", "_law_tree", "_law_found", "_law_nodes_here", "_law_path", "_law_node", "_law_head", "_law_sign", "_law_pair", "_law_rules", "_law_k", "_law_name", "_law_term_here"] ["_law_grammar_here", "_law_tree"] (ah kM):=⟨rfl,rfl,rfl,by decide +kernel,rfl,by decide +kernel,by decide +kernel⟩
theorem wb:aF ["_law_found"] ["_law_found"] (ah kQ):=⟨rfl,rfl,rfl,by decide +kernel,rfl,by decide +kernel,by decide +kernel⟩
theorem sc_qBF:aF ["_law_found", "_law_due", "_law_one", "_law_other"] ["_law_found", "_law_due"] (ah kJ):=⟨rfl,rfl,rfl,by decide +kernel,rfl,by decide +kernel,by decide +kernel⟩
theorem wg:aF ["_law_found", "_law_due"] ["_law_found", "_law_due"] (ah lM):=⟨rfl,rfl,rfl,by decide +kernel,rfl,by decide +kernel,by decide +kernel⟩
theorem sc_qBL:aF ["_law_tree", "_law_path", "_law_cell", "_law_at", "_law_node", "_law_k", "_law_many_here", "_law_far", "_law_odd_here"] ["_law_tree", "_law_path", "_law_cell"] (ah kE):=⟨rfl,rfl,rfl,by decide +kernel,rfl,by decide +kernel,by decide +kernel⟩
theorem sc_qAT:aF ["_law_used", "_law_near", "_law_cell", "_law_some", "_law_word_here"] ["_law_used", "_law_near", "_law_cell"] (ah kW):=⟨rfl,rfl,rfl,by decide +kernel,rfl,by decide +kernel,by decide +kernel⟩
theorem sc_qAE:aF ["_law_grammar_here", "_law_tree", "_law_spot_here", "_law_own", "error"] ["_law_grammar_here", "_law_tree", "_law_spot_here"] (ah lJ):=⟨rfl,rfl,rfl,by decide +kernel,rfl,by decide +kernel,by decide +kernel⟩
theorem sc_qAF:aF ["_law_grammar_here", "_law_tree", "_law_due", "_law_found"] ["_law_grammar_here", "_law_tree", "_law_due"] (ah lI):=⟨rfl,rfl,rfl,by decide +kernel,rfl,by decide +kernel,by decide +kernel⟩
theorem sc_qAA:aF ["_law_grammar_here", "_law_tree", "_law_spot_here", "_law_due", "_law_found"] ["_law_grammar_here", "_law_tree", "_law_spot_here", "_law_due"] (ah lN):=⟨rfl,rfl,rfl,by decide +kernel,rfl,by decide +kernel,by decide +kernel⟩
theorem sc_law:aF ["_law_script", "_law_deck_here", "_law_cell", "_law_grammar_here", "_law_tree", "_law_hang_here", "_law_due", "_law_turned", "_law_spot_here", "_law_some", "_law_k", "_law_path", "_law_node", "_law_used", "_law_near"] ["_law_script"] (ah lO):=⟨rfl,rfl,rfl,by decide +kernel,rfl,by decide +kernel,by decide +kernel⟩
structure Adr where
 qA:Addr
 d_qA:FuncData
 qAZ:Addr
 d_qAZ:FuncData
 qAR:Addr
 d_qAR:FuncData
 qAI:Addr
 d_qAI:FuncData
 qAK:Addr
 d_qAK:FuncData
 qAM:Addr
 d_qAM:FuncData
 qAV:Addr
 d_qAV:FuncData
 qAD:Addr
 d_qAD:FuncData
 qAP:Addr
 d_qAP:FuncData
 qAX:Addr
 d_qAX:FuncData
 qAJ:Addr
 d_qAJ:FuncData
 qAN:Addr
 d_qAN:FuncData
 qAC:Addr
 d_qAC:FuncData
 qAW:Addr
 d_qAW:FuncData
 qBE:Addr
 d_qBE:FuncData
 qBK:Addr
 d_qBK:FuncData
 qAU:Addr
 d_qAU:FuncData
 qAO:Addr
 d_qAO:FuncData
 qBB:Addr
 d_qBB:FuncData
 qBD:Addr
 d_qBD:FuncData
 qBI:Addr
 d_qBI:FuncData
 qB:Addr
 d_qB:FuncData
 qAH:Addr
 d_qAH:FuncData
 qAS:Addr
 d_qAS:FuncData
 qAG:Addr
 d_qAG:FuncData
 qBG:Addr
 d_qBG:FuncData
 qBA:Addr
 d_qBA:FuncData
 qAL:Addr
 d_qAL:FuncData
 qAQ:Addr
 d_qAQ:FuncData
 qBH:Addr
 d_qBH:FuncData
 qBC:Addr
 d_qBC:FuncData
 qAY:Addr
 d_qAY:FuncData
 qBF:Addr
 d_qBF:FuncData
 qAB:Addr
 d_qAB:FuncData
 qBL:Addr
 d_qBL:FuncData
 qAT:Addr
 d_qAT:FuncData
 qAE:Addr
 d_qAE:FuncData
 qAF:Addr
 d_qAF:FuncData
 qAA:Addr
 d_qAA:FuncData
 law:Addr
 d_law:FuncData
 k_LeafError:Addr
 k_NoText:Addr
 k_TooGreat:Addr
 k_NoName:Addr
 k_NoRule:Addr
 k_NoKind:Addr
 k_NoTree:Addr
 k_NoPlace:Addr
 k_NoGiven:Addr
 k_NoWalk:Addr
 k_Ring:Addr
structure Tx (K:W.Frag) (mg:Str->Option Value) (T:Adr):Prop where
 F_qA:Fun K "inner_terms" "inner_terms" vw T.qA T.d_qA
 b_qA:Binds K T.d_qA ["term"] []
 m_qA:mg "inner_terms" = some (.ref T.qA)
 F_qAZ:Fun K "named" "named" kP T.qAZ T.d_qAZ
 b_qAZ:Binds K T.d_qAZ ["term"] []
 m_qAZ:mg "named" = some (.ref T.qAZ)
 F_qAR:Fun K "row_of" "row_of" kY T.qAR T.d_qAR
 b_qAR:Binds K T.d_qAR ["rows", "name"] []
 m_qAR:mg "row_of" = some (.ref T.qAR)
 F_qAI:Fun K "sign_row" "sign_row" lE T.qAI T.d_qAI
 b_qAI:Binds K T.d_qAI ["grammar", "name"] []
 m_qAI:mg "sign_row" = some (.ref T.qAI)
 F_qAK:Fun K "form_row" "form_row" lC T.qAK T.d_qAK
 b_qAK:Binds K T.d_qAK ["grammar", "name"] []
 m_qAK:mg "form_row" = some (.ref T.qAK)
 F_qAM:Fun K "rule_of" "rule_of" lA T.qAM T.d_qAM
 b_qAM:Binds K T.d_qAM ["form", "k", "name"] []
 m_qAM:mg "rule_of" = some (.ref T.qAM)
 F_qAV:Fun K "paths" "paths" kT T.qAV T.d_qAV
 b_qAV:Binds K T.d_qAV ["tree"] []
 m_qAV:mg "paths" = some (.ref T.qAV)
 F_qAD:Fun K "branch_at" "branch_at" lK T.qAD T.d_qAD
 b_qAD:Binds K T.d_qAD ["tree", "path"] []
 m_qAD:mg "branch_at" = some (.ref T.qAD)
 F_qAP:Fun K "sign_at" "sign_at" lh T.qAP T.d_qAP
 b_qAP:Binds K T.d_qAP ["grammar", "tree", "path"] []
 m_qAP:mg "sign_at" = some (.ref T.qAP)
 F_qAX:Fun K "spots" "spots" kR T.qAX T.d_qAX
 b_qAX:Binds K T.d_qAX ["grammar", "tree"] []
 m_qAX:mg "spots" = some (.ref T.qAX)
 F_qAJ:Fun K "ruled_by" "ruled_by" lD T.qAJ T.d_qAJ
 b_qAJ:Binds K T.d_qAJ ["grammar", "tree", "path", "k", "name"] []
 m_qAJ:mg "ruled_by" = some (.ref T.qAJ)
 F_qAN:Fun K "rule_at" "rule_at" lx T.qAN T.d_qAN
 b_qAN:Binds K T.d_qAN ["grammar", "tree", "spot"] []
 m_qAN:mg "rule_at" = some (.ref T.qAN)
 F_qAC:Fun K "named_spot" "named_spot" lL T.qAC T.d_qAC
 b_qAC:Binds K T.d_qAC ["path", "pair"] []
 m_qAC:mg "named_spot" = some (.ref T.qAC)
 F_qAW:Fun K "needs" "needs" kS T.qAW T.d_qAW
 b_qAW:Binds K T.d_qAW ["grammar", "tree", "spot"] []
 m_qAW:mg "needs" = some (.ref T.qAW)
 F_qBE:Fun K "_law_deck" "_law_deck" kK T.qBE T.d_qBE
 b_qBE:Binds K T.d_qBE ["_law_script", "_law_many_here"] []
 m_qBE:mg "_law_deck" = some (.ref T.qBE)
 F_qBK:Fun K "_law_word" "_law_word" kF T.qBK T.d_qBK
 b_qBK:Binds K T.d_qBK ["_law_cell", "_law_k"] []
 m_qBK:mg "_law_word" = some (.ref T.qBK)
 F_qAU:Fun K "_law_signs" "_law_signs" kU T.qAU T.d_qAU
 b_qAU:Binds K T.d_qAU ["_law_deck_here"] []
 m_qAU:mg "_law_signs" = some (.ref T.qAU)
 F_qAO:Fun K "_law_values" "_law_values" lj T.qAO T.d_qAO
 b_qAO:Binds K T.d_qAO ["_law_signs_here", "_law_at"] []
 m_qAO:mg "_law_values" = some (.ref T.qAO)
 F_qBB:Fun K "_law_seen" "_law_seen" kN T.qBB T.d_qBB
 b_qBB:Binds K T.d_qBB ["_law_kind", "_law_one"] []
 m_qBB:mg "_law_seen" = some (.ref T.qBB)
 F_qBD:Fun K "_law_base" "_law_base" kL T.qBD T.d_qBD
 b_qBD:Binds K T.d_qBD ["_law_kind", "_law_cell"] []
 m_qBD:mg "_law_base" = some (.ref T.qBD)
 F_qBI:Fun K "_law_term" "_law_term" kG T.qBI T.d_qBI
 b_qBI:Binds K T.d_qBI ["_law_kind", "_law_some", "_law_cell"] []
 m_qBI:mg "_law_term" = some (.ref T.qBI)
 F_qB:Fun K "_law_form" "_law_form" vv T.qB T.d_qB
 b_qB:Binds K T.d_qB ["_law_signs_here", "_law_name", "_law_at", "_law_deck_here"] []
 m_qB:mg "_law_form" = some (.ref T.qB)
 F_qAH:Fun K "_law_grammar" "_law_grammar" lF T.qAH T.d_qAH
 b_qAH:Binds K T.d_qAH ["_law_deck_here"] []
 m_qAH:mg "_law_grammar" = some (.ref T.qAH)
 F_qAS:Fun K "_law_grown" "_law_grown" kX T.qAS T.d_qAS
 b_qAS:Binds K T.d_qAS ["_law_grammar_here", "_law_sign", "_law_deck_here", "_law_room"] []
 m_qAS:mg "_law_grown" = some (.ref T.qAS)
 F_qAG:Fun K "_law_chained" "_law_chained" lH T.qAG T.d_qAG
 b_qAG:Binds K T.d_qAG ["_law_cell"] []
 m_qAG:mg "_law_chained" = some (.ref T.qAG)
 F_qBG:Fun K "_law_many" "_law_many" kI T.qBG T.d_qBG
 b_qBG:Binds K T.d_qBG ["_law_forms", "_law_many_here", "_law_cell"] []
 m_qBG:mg "_law_many" = some (.ref T.qBG)
 F_qBA:Fun K "_law_case" "_law_case" kO T.qBA T.d_qBA
 b_qBA:Binds K T.d_qBA ["_law_deck_here"] []
 m_qBA:mg "_law_case" = some (.ref T.qBA)
 F_qAL:Fun K "_law_named" "_law_named" lB T.qAL T.d_qAL
 b_qAL:Binds K T.d_qAL ["_law_term_here"] []
 m_qAL:mg "_law_named" = some (.ref T.qAL)
 F_qAQ:Fun K "_law_nodes" "_law_nodes" kZ T.qAQ T.d_qAQ
 b_qAQ:Binds K T.d_qAQ ["_law_tree"] []
 m_qAQ:mg "_law_nodes" = some (.ref T.qAQ)
 F_qBH:Fun K "_law_spot" "_law_spot" kH T.qBH T.d_qBH
 b_qBH:Binds K T.d_qBH ["_law_path", "_law_k", "_law_name"] []
 m_qBH:mg "_law_spot" = some (.ref T.qBH)
 F_qBC:Fun K "_law_hang" "_law_hang" kM T.qBC T.d_qBC
 b_qBC:Binds K T.d_qBC ["_law_grammar_here", "_law_tree"] []
 m_qBC:mg "_law_hang" = some (.ref T.qBC)
 F_qAY:Fun K "_law_whole" "_law_whole" kQ T.qAY T.d_qAY
 b_qAY:Binds K T.d_qAY ["_law_found"] []
 m_qAY:mg "_law_whole" = some (.ref T.qAY)
 F_qBF:Fun K "_law_same" "_law_same" kJ T.qBF T.d_qBF
 b_qBF:Binds K T.d_qBF ["_law_found", "_law_due"] []
 m_qBF:mg "_law_same" = some (.ref T.qBF)
 F_qAB:Fun K "_law_spots_told" "_law_spots_told" lM T.qAB T.d_qAB
 b_qAB:Binds K T.d_qAB ["_law_found", "_law_due"] []
 m_qAB:mg "_law_spots_told" = some (.ref T.qAB)
 F_qBL:Fun K "_law_odd" "_law_odd" kE T.qBL T.d_qBL
 b_qBL:Binds K T.d_qBL ["_law_tree", "_law_path", "_law_cell"] []
 m_qBL:mg "_law_odd" = some (.ref T.qBL)
 F_qAT:Fun K "_law_fresh" "_law_fresh" kW T.qAT T.d_qAT
 b_qAT:Binds K T.d_qAT ["_law_used", "_law_near", "_law_cell"] []
 m_qAT:mg "_law_fresh" = some (.ref T.qAT)
 F_qAE:Fun K "_law_refused" "_law_refused" lJ T.qAE T.d_qAE
 b_qAE:Binds K T.d_qAE ["_law_grammar_here", "_law_tree", "_law_spot_here"] []
 m_qAE:mg "_law_refused" = some (.ref T.qAE)
 F_qAF:Fun K "_law_all_told" "_law_all_told" lI T.qAF T.d_qAF
 b_qAF:Binds K T.d_qAF ["_law_grammar_here", "_law_tree", "_law_due"] []
 m_qAF:mg "_law_all_told" = some (.ref T.qAF)
 F_qAA:Fun K "_law_needs_told" "_law_needs_told" lN T.qAA T.d_qAA
 b_qAA:Binds K T.d_qAA ["_law_grammar_here", "_law_tree", "_law_spot_here", "_law_due"] []
 m_qAA:mg "_law_needs_told" = some (.ref T.qAA)
 F_law:Fun K "law" "law" lO T.law T.d_law
 b_law:Binds K T.d_law ["_law_script"] []
 m_law:mg "law" = some (.ref T.law)
 z_ValueError:mg "ValueError" = none
 z_bool:mg "bool" = none
 z_dict:mg "dict" = none
 z_enumerate:mg "enumerate" = none
 z_int:mg "int" = none
 z_isinstance:mg "isinstance" = none
 z_len:mg "len" = none
 z_list:mg "list" = none
 z_min:mg "min" = none
 z_range:mg "range" = none
 z_reversed:mg "reversed" = none
 z_str:mg "str" = none
 z_tuple:mg "tuple" = none
 z_zip:mg "zip" = none
 m_LeafError:mg "LeafError" = some (.ref T.k_LeafError)
 e_LeafError:mF K T.k_LeafError
 m_NoText:mg "NoText" = some (.ref T.k_NoText)
 m_TooGreat:mg "TooGreat" = some (.ref T.k_TooGreat)
 m_NoName:mg "NoName" = some (.ref T.k_NoName)
 e_NoName:mF K T.k_NoName
 x_NoName:sI K T.k_NoName
 u_NoName_LeafError:PySem.W.mroIn K T.k_NoName (.ref T.k_LeafError)=some true
 i_NoName_0:PySem.W.kitOne K (.ref T.k_NoName) (.ref T.k_NoPlace)=some false
 i_NoName_1:PySem.W.kitOne K (.ref T.k_NoName) (.type "ValueError")=some true
 i_NoName_2:PySem.W.kitAny K (.ref T.k_NoName) [.ref T.k_NoText,.ref T.k_TooGreat,.ref T.k_NoName,.ref T.k_NoRule,.ref T.k_NoKind,.ref T.k_NoTree,.ref T.k_NoGiven,.ref T.k_NoWalk,.ref T.k_Ring]=some true
 m_NoRule:mg "NoRule" = some (.ref T.k_NoRule)
 e_NoRule:mF K T.k_NoRule
 x_NoRule:sI K T.k_NoRule
 u_NoRule_LeafError:PySem.W.mroIn K T.k_NoRule (.ref T.k_LeafError)=some true
 i_NoRule_0:PySem.W.kitOne K (.ref T.k_NoRule) (.ref T.k_NoPlace)=some false
 i_NoRule_1:PySem.W.kitOne K (.ref T.k_NoRule) (.type "ValueError")=some true
 i_NoRule_2:PySem.W.kitAny K (.ref T.k_NoRule) [.ref T.k_NoText,.ref T.k_TooGreat,.ref T.k_NoName,.ref T.k_NoRule,.ref T.k_NoKind,.ref T.k_NoTree,.ref T.k_NoGiven,.ref T.k_NoWalk,.ref T.k_Ring]=some true
 m_NoKind:mg "NoKind" = some (.ref T.k_NoKind)
 m_NoTree:mg "NoTree" = some (.ref T.k_NoTree)
 m_NoPlace:mg "NoPlace" = some (.ref T.k_NoPlace)
 e_NoPlace:mF K T.k_NoPlace
 x_NoPlace:sI K T.k_NoPlace
 u_NoPlace_LeafError:PySem.W.mroIn K T.k_NoPlace (.ref T.k_LeafError)=some true
 i_NoPlace_0:PySem.W.kitOne K (.ref T.k_NoPlace) (.ref T.k_NoPlace)=some true
 i_NoPlace_1:PySem.W.kitOne K (.ref T.k_NoPlace) (.type "ValueError")=some true
 i_NoPlace_2:PySem.W.kitAny K (.ref T.k_NoPlace) [.ref T.k_NoText,.ref T.k_TooGreat,.ref T.k_NoName,.ref T.k_NoRule,.ref T.k_NoKind,.ref T.k_NoTree,.ref T.k_NoGiven,.ref T.k_NoWalk,.ref T.k_Ring]=some false
 m_NoGiven:mg "NoGiven" = some (.ref T.k_NoGiven)
 m_NoWalk:mg "NoWalk" = some (.ref T.k_NoWalk)
 m_Ring:mg "Ring" = some (.ref T.k_Ring)
theorem tx_mk {K:W.Frag} {h:Heap} {mg:Str->Option Value} (X:K.In h) (G:h.Ns mainGlobals mg) {f0 f1 f2 f3 f4 f5 f6 f7 f8 f9 f10 f11 f12 f13 f14 f15 f16 f17 f18 f19 f20 f21 f22 f23 f24 f25 f26 f27 f28 f29 f30 f31 f32 f33 f34 f35 f36 f37 f38 f39:Addr} {od0 an0 od1 an1 od2 an2 od3 an3 od4 an4 od5 an5 od6 an6 od7 an7 od8 an8 od9 an9 od10 an10 od11 an11 od12 an12 od13 an13 od14 an14 od15 an15 od16 an16 od17 an17 od18 an18 od19 an19 od20 an20 od21 an21 od22 an22 od23 an23 od24 an24 od25 an25 od26 an26 od27 an27 od28 an28 od29 an29 od30 an30 od31 an31 od32 an32 od33 an33 od34 an34 od35 an35 od36 an36 od37 an37 od38 an38 od39 an39:Option Addr} {sl0 sl1 sl2 sl3 sl4 sl5 sl6 sl7 sl8 sl9 sl10 sl11 sl12 sl13 sl14 sl15 sl16 sl17 sl18 sl19 sl20 sl21 sl22 sl23 sl24 sl25 sl26 sl27 sl28 sl29 sl30 sl31 sl32 sl33 sl34 sl35 sl36 sl37 sl38 sl39:Array (Option Value)}
  {oc0 kV0 dc0 pm0 cd0 ct0 oc1 kV1 dc1 pm1 cd1 ct1 oc2 kV2 dc2 pm2 cd2 ct2 oc3 kV3 dc3 pm3 cd3 ct3 oc4 kV4 dc4 pm4 cd4 ct4 oc5 kV5 dc5 pm5 cd5 ct5 oc6 kV6 dc6 pm6 cd6 ct6 oc7 kV7 dc7 pm7 cd7 ct7 oc8 kV8 dc8 pm8 cd8 ct8 oc9 kV9 dc9 pm9 cd9 ct9 oc10 kV10 dc10 pm10 cd10 ct10 oc11 kV11 dc11 pm11 cd11 ct11 oc12 kV12 dc12 pm12 cd12 ct12 oc13 kV13 dc13 pm13 cd13 ct13 oc14 kV14 dc14 pm14 cd14 ct14 oc15 kV15 dc15 pm15 cd15 ct15 oc16 kV16 dc16 pm16 cd16 ct16 oc17 kV17 dc17 pm17 cd17 ct17 oc18 kV18 dc18 pm18 cd18 ct18 oc19 kV19 dc19 pm19 cd19 ct19 oc20 kV20 dc20 pm20 cd20 ct20 oc21 kV21 dc21 pm21 cd21 ct21 oc22 kV22 dc22 pm22 cd22 ct22 oc23 kV23 dc23 pm23 cd23 ct23 oc24 kV24 dc24 pm24 cd24 ct24 oc25 kV25 dc25 pm25 cd25 ct25 oc26 kV26 dc26 pm26 cd26 ct26 oc27 kV27 dc27 pm27 cd27 ct27 oc28 kV28 dc28 pm28 cd28 ct28 oc29 kV29 dc29 pm29 cd29 ct29 oc30 kV30 dc30 pm30 cd30 ct30 oc31 kV31 dc31 pm31 cd31 ct31 oc32 kV32 dc32 pm32 cd32 ct32 oc33 kV33 dc33 pm33 cd33 ct33 oc34 kV34 dc34 pm34 cd34 ct34 oc35 kV35 dc35 pm35 cd35 ct35 oc36 kV36 dc36 pm36 cd36 ct36 oc37 kV37 dc37 pm37 cd37 ct37 oc38 kV38 dc38 pm38 cd38 ct38 oc39 kV39 dc39 pm39 cd39 ct39:Value}
  {k_LeafError k_NoText k_TooGreat k_NoName k_NoRule k_NoKind k_NoTree k_NoPlace k_NoGiven k_NoWalk k_Ring:Addr}
  (m_LeafError:PySem.W.nsIn K mainGlobals "LeafError" = some (some (.ref k_LeafError)))
  (m_NoText:PySem.W.nsIn K mainGlobals "NoText" = some (some (.ref k_NoText)))
  (m_TooGreat:PySem.W.nsIn K mainGlobals "TooGreat" = some (some (.ref k_TooGreat)))
  (m_NoName:PySem.W.nsIn K mainGlobals "NoName" = some (some (.ref k_NoName)))
  (m_NoRule:PySem.W.nsIn K mainGlobals "NoRule" = some (some (.ref k_NoRule)))
  (m_NoKind:PySem.W.nsIn K mainGlobals "NoKind" = some (some (.ref k_NoKind)))
  (m_NoTree:PySem.W.nsIn K mainGlobals "NoTree" = some (some (.ref k_NoTree)))
  (m_NoPlace:PySem.W.nsIn K mainGlobals "NoPlace" = some (some (.ref k_NoPlace)))
  (m_NoGiven:PySem.W.nsIn K mainGlobals "NoGiven" = some (some (.ref k_NoGiven)))
  (m_NoWalk:PySem.W.nsIn K mainGlobals "NoWalk" = some (some (.ref k_NoWalk)))
  (m_Ring:PySem.W.nsIn K mainGlobals "Ring" = some (some (.ref k_Ring)))
  (a0:PySem.W.nsIn K mainGlobals "inner_terms" = some (some (.ref f0))) (l0:K.lookup f0=some ⟨oc0,od0,.func (PySem.W.fnOf "inner_terms" "inner_terms" (aB vw) (aA vw) (ah vw) .none kV0 dc0 pm0 an0 cd0 ct0),sl0⟩) (c0:PySem.W.codeIn K cd0 "inner_terms" = true) (k0:PySem.W.keepIn K (.ref f0)=true)
  (a1:PySem.W.nsIn K mainGlobals "named" = some (some (.ref f1))) (l1:K.lookup f1=some ⟨oc1,od1,.func (PySem.W.fnOf "named" "named" (aB kP) (aA kP) (ah kP) .none kV1 dc1 pm1 an1 cd1 ct1),sl1⟩) (c1:PySem.W.codeIn K cd1 "named" = true) (k1:PySem.W.keepIn K (.ref f1)=true)
  (a2:PySem.W.nsIn K mainGlobals "row_of" = some (some (.ref f2))) (l2:K.lookup f2=some ⟨oc2,od2,.func (PySem.W.fnOf "row_of" "row_of" (aB kY) (aA kY) (ah kY) .none kV2 dc2 pm2 an2 cd2 ct2),sl2⟩) (c2:PySem.W.codeIn K cd2 "row_of" = true) (k2:PySem.W.keepIn K (.ref f2)=true)
  (a3:PySem.W.nsIn K mainGlobals "sign_row" = some (some (.ref f3))) (l3:K.lookup f3=some ⟨oc3,od3,.func (PySem.W.fnOf "sign_row" "sign_row" (aB lE) (aA lE) (ah lE) .none kV3 dc3 pm3 an3 cd3 ct3),sl3⟩) (c3:PySem.W.codeIn K cd3 "sign_row" = true) (k3:PySem.W.keepIn K (.ref f3)=true)
  (a4:PySem.W.nsIn K mainGlobals "form_row" = some (some (.ref f4))) (l4:K.lookup f4=some ⟨oc4,od4,.func (PySem.W.fnOf "form_row" "form_row" (aB lC) (aA lC) (ah lC) .none kV4 dc4 pm4 an4 cd4 ct4),sl4⟩) (c4:PySem.W.codeIn K cd4 "form_row" = true) (k4:PySem.W.keepIn K (.ref f4)=true)
  (a5:PySem.W.nsIn K mainGlobals "rule_of" = some (some (.ref f5))) (l5:K.lookup f5=some ⟨oc5,od5,.func (PySem.W.fnOf "rule_of" "rule_of" (aB lA) (aA lA) (ah lA) .none kV5 dc5 pm5 an5 cd5 ct5),sl5⟩) (c5:PySem.W.codeIn K cd5 "rule_of" = true) (k5:PySem.W.keepIn K (.ref f5)=true)
  (a6:PySem.W.nsIn K mainGlobals "paths" = some (some (.ref f6))) (l6:K.lookup f6=some ⟨oc6,od6,.func (PySem.W.fnOf "paths" "paths" (aB kT) (aA kT) (ah kT) .none kV6 dc6 pm6 an6 cd6 ct6),sl6⟩) (c6:PySem.W.codeIn K cd6 "paths" = true) (k6:PySem.W.keepIn K (.ref f6)=true)
  (a7:PySem.W.nsIn K mainGlobals "branch_at" = some (some (.ref f7))) (l7:K.lookup f7=some ⟨oc7,od7,.func (PySem.W.fnOf "branch_at" "branch_at" (aB lK) (aA lK) (ah lK) .none kV7 dc7 pm7 an7 cd7 ct7),sl7⟩) (c7:PySem.W.codeIn K cd7 "branch_at" = true) (k7:PySem.W.keepIn K (.ref f7)=true)
  (a8:PySem.W.nsIn K mainGlobals "sign_at" = some (some (.ref f8))) (l8:K.lookup f8=some ⟨oc8,od8,.func (PySem.W.fnOf "sign_at" "sign_at" (aB lh) (aA lh) (ah lh) .none kV8 dc8 pm8 an8 cd8 ct8),sl8⟩) (c8:PySem.W.codeIn K cd8 "sign_at" = true) (k8:PySem.W.keepIn K (.ref f8)=true)
  (a9:PySem.W.nsIn K mainGlobals "spots" = some (some (.ref f9))) (l9:K.lookup f9=some ⟨oc9,od9,.func (PySem.W.fnOf "spots" "spots" (aB kR) (aA kR) (ah kR) .none kV9 dc9 pm9 an9 cd9 ct9),sl9⟩) (c9:PySem.W.codeIn K cd9 "spots" = true) (k9:PySem.W.keepIn K (.ref f9)=true)
  (a10:PySem.W.nsIn K mainGlobals "ruled_by" = some (some (.ref f10))) (l10:K.lookup f10=some ⟨oc10,od10,.func (PySem.W.fnOf "ruled_by" "ruled_by" (aB lD) (aA lD) (ah lD) .none kV10 dc10 pm10 an10 cd10 ct10),sl10⟩) (c10:PySem.W.codeIn K cd10 "ruled_by" = true) (k10:PySem.W.keepIn K (.ref f10)=true)
  (a11:PySem.W.nsIn K mainGlobals "rule_at" = some (some (.ref f11))) (l11:K.lookup f11=some ⟨oc11,od11,.func (PySem.W.fnOf "rule_at" "rule_at" (aB lx) (aA lx) (ah lx) .none kV11 dc11 pm11 an11 cd11 ct11),sl11⟩) (c11:PySem.W.codeIn K cd11 "rule_at" = true) (k11:PySem.W.keepIn K (.ref f11)=true)
  (a12:PySem.W.nsIn K mainGlobals "named_spot" = some (some (.ref f12))) (l12:K.lookup f12=some ⟨oc12,od12,.func (PySem.W.fnOf "named_spot" "named_spot" (aB lL) (aA lL) (ah lL) .none kV12 dc12 pm12 an12 cd12 ct12),sl12⟩) (c12:PySem.W.codeIn K cd12 "named_spot" = true) (k12:PySem.W.keepIn K (.ref f12)=true)
  (a13:PySem.W.nsIn K mainGlobals "needs" = some (some (.ref f13))) (l13:K.lookup f13=some ⟨oc13,od13,.func (PySem.W.fnOf "needs" "needs" (aB kS) (aA kS) (ah kS) .none kV13 dc13 pm13 an13 cd13 ct13),sl13⟩) (c13:PySem.W.codeIn K cd13 "needs" = true) (k13:PySem.W.keepIn K (.ref f13)=true)
  (a14:PySem.W.nsIn K mainGlobals "_law_deck" = some (some (.ref f14))) (l14:K.lookup f14=some ⟨oc14,od14,.func (PySem.W.fnOf "_law_deck" "_law_deck" (aB kK) (aA kK) (ah kK) .none kV14 dc14 pm14 an14 cd14 ct14),sl14⟩) (c14:PySem.W.codeIn K cd14 "_law_deck" = true) (k14:PySem.W.keepIn K (.ref f14)=true)
  (a15:PySem.W.nsIn K mainGlobals "_law_word" = some (some (.ref f15))) (l15:K.lookup f15=some ⟨oc15,od15,.func (PySem.W.fnOf "_law_word" "_law_word" (aB kF) (aA kF) (ah kF) .none kV15 dc15 pm15 an15 cd15 ct15),sl15⟩) (c15:PySem.W.codeIn K cd15 "_law_word" = true) (k15:PySem.W.keepIn K (.ref f15)=true)
  (a16:PySem.W.nsIn K mainGlobals "_law_signs" = some (some (.ref f16))) (l16:K.lookup f16=some ⟨oc16,od16,.func (PySem.W.fnOf "_law_signs" "_law_signs" (aB kU) (aA kU) (ah kU) .none kV16 dc16 pm16 an16 cd16 ct16),sl16⟩) (c16:PySem.W.codeIn K cd16 "_law_signs" = true) (k16:PySem.W.keepIn K (.ref f16)=true)
  (a17:PySem.W.nsIn K mainGlobals "_law_values" = some (some (.ref f17))) (l17:K.lookup f17=some ⟨oc17,od17,.func (PySem.W.fnOf "_law_values" "_law_values" (aB lj) (aA lj) (ah lj) .none kV17 dc17 pm17 an17 cd17 ct17),sl17⟩) (c17:PySem.W.codeIn K cd17 "_law_values" = true) (k17:PySem.W.keepIn K (.ref f17)=true)
  (a18:PySem.W.nsIn K mainGlobals "_law_seen" = some (some (.ref f18))) (l18:K.lookup f18=some ⟨oc18,od18,.func (PySem.W.fnOf "_law_seen" "_law_seen" (aB kN) (aA kN) (ah kN) .none kV18 dc18 pm18 an18 cd18 ct18),sl18⟩) (c18:PySem.W.codeIn K cd18 "_law_seen" = true) (k18:PySem.W.keepIn K (.ref f18)=true)
  (a19:PySem.W.nsIn K mainGlobals "_law_base" = some (some (.ref f19))) (l19:K.lookup f19=some ⟨oc19,od19,.func (PySem.W.fnOf "_law_base" "_law_base" (aB kL) (aA kL) (ah kL) .none kV19 dc19 pm19 an19 cd19 ct19),sl19⟩) (c19:PySem.W.codeIn K cd19 "_law_base" = true) (k19:PySem.W.keepIn K (.ref f19)=true)
  (a20:PySem.W.nsIn K mainGlobals "_law_term" = some (some (.ref f20))) (l20:K.lookup f20=some ⟨oc20,od20,.func (PySem.W.fnOf "_law_term" "_law_term" (aB kG) (aA kG) (ah kG) .none kV20 dc20 pm20 an20 cd20 ct20),sl20⟩) (c20:PySem.W.codeIn K cd20 "_law_term" = true) (k20:PySem.W.keepIn K (.ref f20)=true)
  (a21:PySem.W.nsIn K mainGlobals "_law_form" = some (some (.ref f21))) (l21:K.lookup f21=some ⟨oc21,od21,.func (PySem.W.fnOf "_law_form" "_law_form" (aB vv) (aA vv) (ah vv) .none kV21 dc21 pm21 an21 cd21 ct21),sl21⟩) (c21:PySem.W.codeIn K cd21 "_law_form" = true) (k21:PySem.W.keepIn K (.ref f21)=true)
  (a22:PySem.W.nsIn K mainGlobals "_law_grammar" = some (some (.ref f22))) (l22:K.lookup f22=some ⟨oc22,od22,.func (PySem.W.fnOf "_law_grammar" "_law_grammar" (aB lF) (aA lF) (ah lF) .none kV22 dc22 pm22 an22 cd22 ct22),sl22⟩) (c22:PySem.W.codeIn K cd22 "_law_grammar" = true) (k22:PySem.W.keepIn K (.ref f22)=true)
  (a23:PySem.W.nsIn K mainGlobals "_law_grown" = some (some (.ref f23))) (l23:K.lookup f23=some ⟨oc23,od23,.func (PySem.W.fnOf "_law_grown" "_law_grown" (aB kX) (aA kX) (ah kX) .none kV23 dc23 pm23 an23 cd23 ct23),sl23⟩) (c23:PySem.W.codeIn K cd23 "_law_grown" = true) (k23:PySem.W.keepIn K (.ref f23)=true)
  (a24:PySem.W.nsIn K mainGlobals "_law_chained" = some (some (.ref f24))) (l24:K.lookup f24=some ⟨oc24,od24,.func (PySem.W.fnOf "_law_chained" "_law_chained" (aB lH) (aA lH) (ah lH) .none kV24 dc24 pm24 an24 cd24 ct24),sl24⟩) (c24:PySem.W.codeIn K cd24 "_law_chained" = true) (k24:PySem.W.keepIn K (.ref f24)=true)
  (a25:PySem.W.nsIn K mainGlobals "_law_many" = some (some (.ref f25))) (l25:K.lookup f25=some ⟨oc25,od25,.func (PySem.W.fnOf "_law_many" "_law_many" (aB kI) (aA kI) (ah kI) .none kV25 dc25 pm25 an25 cd25 ct25),sl25⟩) (c25:PySem.W.codeIn K cd25 "_law_many" = true) (k25:PySem.W.keepIn K (.ref f25)=true)
  (a26:PySem.W.nsIn K mainGlobals "_law_case" = some (some (.ref f26))) (l26:K.lookup f26=some ⟨oc26,od26,.func (PySem.W.fnOf "_law_case" "_law_case" (aB kO) (aA kO) (ah kO) .none kV26 dc26 pm26 an26 cd26 ct26),sl26⟩) (c26:PySem.W.codeIn K cd26 "_law_case" = true) (k26:PySem.W.keepIn K (.ref f26)=true)
  (a27:PySem.W.nsIn K mainGlobals "_law_named" = some (some (.ref f27))) (l27:K.lookup f27=some ⟨oc27,od27,.func (PySem.W.fnOf "_law_named" "_law_named" (aB lB) (aA lB) (ah lB) .none kV27 dc27 pm27 an27 cd27 ct27),sl27⟩) (c27:PySem.W.codeIn K cd27 "_law_named" = true) (k27:PySem.W.keepIn K (.ref f27)=true)
  (a28:PySem.W.nsIn K mainGlobals "_law_nodes" = some (some (.ref f28))) (l28:K.lookup f28=some ⟨oc28,od28,.func (PySem.W.fnOf "_law_nodes" "_law_nodes" (aB kZ) (aA kZ) (ah kZ) .none kV28 dc28 pm28 an28 cd28 ct28),sl28⟩) (c28:PySem.W.codeIn K cd28 "_law_nodes" = true) (k28:PySem.W.keepIn K (.ref f28)=true)
  (a29:PySem.W.nsIn K mainGlobals "_law_spot" = some (some (.ref f29))) (l29:K.lookup f29=some ⟨oc29,od29,.func (PySem.W.fnOf "_law_spot" "_law_spot" (aB kH) (aA kH) (ah kH) .none kV29 dc29 pm29 an29 cd29 ct29),sl29⟩) (c29:PySem.W.codeIn K cd29 "_law_spot" = true) (k29:PySem.W.keepIn K (.ref f29)=true)
  (a30:PySem.W.nsIn K mainGlobals "_law_hang" = some (some (.ref f30))) (l30:K.lookup f30=some ⟨oc30,od30,.func (PySem.W.fnOf "_law_hang" "_law_hang" (aB kM) (aA kM) (ah kM) .none kV30 dc30 pm30 an30 cd30 ct30),sl30⟩) (c30:PySem.W.codeIn K cd30 "_law_hang" = true) (k30:PySem.W.keepIn K (.ref f30)=true)
  (a31:PySem.W.nsIn K mainGlobals "_law_whole" = some (some (.ref f31))) (l31:K.lookup f31=some ⟨oc31,od31,.func (PySem.W.fnOf "_law_whole" "_law_whole" (aB kQ) (aA kQ) (ah kQ) .none kV31 dc31 pm31 an31 cd31 ct31),sl31⟩) (c31:PySem.W.codeIn K cd31 "_law_whole" = true) (k31:PySem.W.keepIn K (.ref f31)=true)
  (a32:PySem.W.nsIn K mainGlobals "_law_same" = some (some (.ref f32))) (l32:K.lookup f32=some ⟨oc32,od32,.func (PySem.W.fnOf "_law_same" "_law_same" (aB kJ) (aA kJ) (ah kJ) .none kV32 dc32 pm32 an32 cd32 ct32),sl32⟩) (c32:PySem.W.codeIn K cd32 "_law_same" = true) (k32:PySem.W.keepIn K (.ref f32)=true)
  (a33:PySem.W.nsIn K mainGlobals "_law_spots_told" = some (some (.ref f33))) (l33:K.lookup f33=some ⟨oc33,od33,.func (PySem.W.fnOf "_law_spots_told" "_law_spots_told" (aB lM) (aA lM) (ah lM) .none kV33 dc33 pm33 an33 cd33 ct33),sl33⟩) (c33:PySem.W.codeIn K cd33 "_law_spots_told" = true) (k33:PySem.W.keepIn K (.ref f33)=true)
  (a34:PySem.W.nsIn K mainGlobals "_law_odd" = some (some (.ref f34))) (l34:K.lookup f34=some ⟨oc34,od34,.func (PySem.W.fnOf "_law_odd" "_law_odd" (aB kE) (aA kE) (ah kE) .none kV34 dc34 pm34 an34 cd34 ct34),sl34⟩) (c34:PySem.W.codeIn K cd34 "_law_odd" = true) (k34:PySem.W.keepIn K (.ref f34)=true)
  (a35:PySem.W.nsIn K mainGlobals "_law_fresh" = some (some (.ref f35))) (l35:K.lookup f35=some ⟨oc35,od35,.func (PySem.W.fnOf "_law_fresh" "_law_fresh" (aB kW) (aA kW) (ah kW) .none kV35 dc35 pm35 an35 cd35 ct35),sl35⟩) (c35:PySem.W.codeIn K cd35 "_law_fresh" = true) (k35:PySem.W.keepIn K (.ref f35)=true)
  (a36:PySem.W.nsIn K mainGlobals "_law_refused" = some (some (.ref f36))) (l36:K.lookup f36=some ⟨oc36,od36,.func (PySem.W.fnOf "_law_refused" "_law_refused" (aB lJ) (aA lJ) (ah lJ) .none kV36 dc36 pm36 an36 cd36 ct36),sl36⟩) (c36:PySem.W.codeIn K cd36 "_law_refused" = true) (k36:PySem.W.keepIn K (.ref f36)=true)
  (a37:PySem.W.nsIn K mainGlobals "_law_all_told" = some (some (.ref f37))) (l37:K.lookup f37=some ⟨oc37,od37,.func (PySem.W.fnOf "_law_all_told" "_law_all_told" (aB lI) (aA lI) (ah lI) .none kV37 dc37 pm37 an37 cd37 ct37),sl37⟩) (c37:PySem.W.codeIn K cd37 "_law_all_told" = true) (k37:PySem.W.keepIn K (.ref f37)=true)
  (a38:PySem.W.nsIn K mainGlobals "_law_needs_told" = some (some (.ref f38))) (l38:K.lookup f38=some ⟨oc38,od38,.func (PySem.W.fnOf "_law_needs_told" "_law_needs_told" (aB lN) (aA lN) (ah lN) .none kV38 dc38 pm38 an38 cd38 ct38),sl38⟩) (c38:PySem.W.codeIn K cd38 "_law_needs_told" = true) (k38:PySem.W.keepIn K (.ref f38)=true)
  (a39:PySem.W.nsIn K mainGlobals "law" = some (some (.ref f39))) (l39:K.lookup f39=some ⟨oc39,od39,.func (PySem.W.fnOf "law" "law" (aB lO) (aA lO) (ah lO) .none kV39 dc39 pm39 an39 cd39 ct39),sl39⟩) (c39:PySem.W.codeIn K cd39 "law" = true) (k39:PySem.W.keepIn K (.ref f39)=true)
  (z_ValueError:PySem.W.nsIn K mainGlobals "ValueError" = some none)
  (z_bool:PySem.W.nsIn K mainGlobals "bool" = some none)
  (z_dict:PySem.W.nsIn K mainGlobals "dict" = some none)
  (z_enumerate:PySem.W.nsIn K mainGlobals "enumerate" = some none)
  (z_int:PySem.W.nsIn K mainGlobals "int" = some none)
  (z_isinstance:PySem.W.nsIn K mainGlobals "isinstance" = some none)
  (z_len:PySem.W.nsIn K mainGlobals "len" = some none)
  (z_list:PySem.W.nsIn K mainGlobals "list" = some none)
  (z_min:PySem.W.nsIn K mainGlobals "min" = some none)
  (z_range:PySem.W.nsIn K mainGlobals "range" = some none)
  (z_reversed:PySem.W.nsIn K mainGlobals "reversed" = some none)
  (z_str:PySem.W.nsIn K mainGlobals "str" = some none)
  (z_tuple:PySem.W.nsIn K mainGlobals "tuple" = some none)
  (z_zip:PySem.W.nsIn K mainGlobals "zip" = some none)
  (e_LeafError:PySem.W.excIn K k_LeafError vbm "ValueError.__new__" = true)
  (e_NoName:PySem.W.excIn K k_NoName vbm "ValueError.__new__" = true)
  (xga_NoName:PySem.W.findIn K (.ref k_NoName) "__getattribute__" = some (some (.builtin "BaseException.__getattribute__")))
  (xgt_NoName:PySem.W.findIn K (.ref k_NoName) "__getattr__" = some none)
  (xca_NoName:PySem.W.findIn K (.ref k_NoName) "__class__" = some (some (.builtin "object.__class__")))
  (xsp_NoName:PySem.W.specialIn K (.builtin "object.__class__") "__get__" = some (some (.builtin "getset_descriptor.__get__")))
  (xtk_NoName:PySem.W.takesIn K (.builtin "object.__class__")=some true)
  (xmo_NoName:PySem.W.mroIn K k_NoName (.type "object")=some true)
  (xmb_NoName:PySem.W.mroIn K k_NoName (.type "BaseException")=some true)
  (u_NoName_LeafError:PySem.W.mroIn K k_NoName (.ref k_LeafError)=some true)
  (i_NoName_0:PySem.W.kitOne K (.ref k_NoName) (.ref k_NoPlace)=some false)
  (i_NoName_1:PySem.W.kitOne K (.ref k_NoName) (.type "ValueError")=some true)
  (i_NoName_2:PySem.W.kitAny K (.ref k_NoName) [.ref k_NoText,.ref k_TooGreat,.ref k_NoName,.ref k_NoRule,.ref k_NoKind,.ref k_NoTree,.ref k_NoGiven,.ref k_NoWalk,.ref k_Ring]=some true)
  (e_NoRule:PySem.W.excIn K k_NoRule vbm "ValueError.__new__" = true)
  (xga_NoRule:PySem.W.findIn K (.ref k_NoRule) "__getattribute__" = some (some (.builtin "BaseException.__getattribute__")))
  (xgt_NoRule:PySem.W.findIn K (.ref k_NoRule) "__getattr__" = some none)
  (xca_NoRule:PySem.W.findIn K (.ref k_NoRule) "__class__" = some (some (.builtin "object.__class__")))
  (xsp_NoRule:PySem.W.specialIn K (.builtin "object.__class__") "__get__" = some (some (.builtin "getset_descriptor.__get__")))
  (xtk_NoRule:PySem.W.takesIn K (.builtin "object.__class__")=some true)
  (xmo_NoRule:PySem.W.mroIn K k_NoRule (.type "object")=some true)
  (xmb_NoRule:PySem.W.mroIn K k_NoRule (.type "BaseException")=some true)
  (u_NoRule_LeafError:PySem.W.mroIn K k_NoRule (.ref k_LeafError)=some true)
  (i_NoRule_0:PySem.W.kitOne K (.ref k_NoRule) (.ref k_NoPlace)=some false)
  (i_NoRule_1:PySem.W.kitOne K (.ref k_NoRule) (.type "ValueError")=some true)
  (i_NoRule_2:PySem.W.kitAny K (.ref k_NoRule) [.ref k_NoText,.ref k_TooGreat,.ref k_NoName,.ref k_NoRule,.ref k_NoKind,.ref k_NoTree,.ref k_NoGiven,.ref k_NoWalk,.ref k_Ring]=some true)
  (e_NoPlace:PySem.W.excIn K k_NoPlace vbm "ValueError.__new__" = true)
  (xga_NoPlace:PySem.W.findIn K (.ref k_NoPlace) "__getattribute__" = some (some (.builtin "BaseException.__getattribute__")))
  (xgt_NoPlace:PySem.W.findIn K (.ref k_NoPlace) "__getattr__" = some none)
  (xca_NoPlace:PySem.W.findIn K (.ref k_NoPlace) "__class__" = some (some (.builtin "object.__class__")))
  (xsp_NoPlace:PySem.W.specialIn K (.builtin "object.__class__") "__get__" = some (some (.builtin "getset_descriptor.__get__")))
  (xtk_NoPlace:PySem.W.takesIn K (.builtin "object.__class__")=some true)
  (xmo_NoPlace:PySem.W.mroIn K k_NoPlace (.type "object")=some true)
  (xmb_NoPlace:PySem.W.mroIn K k_NoPlace (.type "BaseException")=some true)
  (u_NoPlace_LeafError:PySem.W.mroIn K k_NoPlace (.ref k_LeafError)=some true)
  (i_NoPlace_0:PySem.W.kitOne K (.ref k_NoPlace) (.ref k_NoPlace)=some true)
  (i_NoPlace_1:PySem.W.kitOne K (.ref k_NoPlace) (.type "ValueError")=some true)
  (i_NoPlace_2:PySem.W.kitAny K (.ref k_NoPlace) [.ref k_NoText,.ref k_TooGreat,.ref k_NoName,.ref k_NoRule,.ref k_NoKind,.ref k_NoTree,.ref k_NoGiven,.ref k_NoWalk,.ref k_Ring]=some false)
  : ∃ T:Adr,Tx K mg T:=by
 have F0:=aR (st:=vw) l0 c0 k0
 have F1:=aR (st:=kP) l1 c1 k1
 have F2:=aR (st:=kY) l2 c2 k2
 have F3:=aR (st:=lE) l3 c3 k3
 have F4:=aR (st:=lC) l4 c4 k4
 have F5:=aR (st:=lA) l5 c5 k5
 have F6:=aR (st:=kT) l6 c6 k6
 have F7:=aR (st:=lK) l7 c7 k7
 have F8:=aR (st:=lh) l8 c8 k8
 have F9:=aR (st:=kR) l9 c9 k9
 have F10:=aR (st:=lD) l10 c10 k10
 have F11:=aR (st:=lx) l11 c11 k11
 have F12:=aR (st:=lL) l12 c12 k12
 have F13:=aR (st:=kS) l13 c13 k13
 have F14:=aR (st:=kK) l14 c14 k14
 have F15:=aR (st:=kF) l15 c15 k15
 have F16:=aR (st:=kU) l16 c16 k16
 have F17:=aR (st:=lj) l17 c17 k17
 have F18:=aR (st:=kN) l18 c18 k18
 have F19:=aR (st:=kL) l19 c19 k19
 have F20:=aR (st:=kG) l20 c20 k20
 have F21:=aR (st:=vv) l21 c21 k21
 have F22:=aR (st:=lF) l22 c22 k22
 have F23:=aR (st:=kX) l23 c23 k23
 have F24:=aR (st:=lH) l24 c24 k24
 have F25:=aR (st:=kI) l25 c25 k25
 have F26:=aR (st:=kO) l26 c26 k26
 have F27:=aR (st:=lB) l27 c27 k27
 have F28:=aR (st:=kZ) l28 c28 k28
 have F29:=aR (st:=kH) l29 c29 k29
 have F30:=aR (st:=kM) l30 c30 k30
 have F31:=aR (st:=kQ) l31 c31 k31
 have F32:=aR (st:=kJ) l32 c32 k32
 have F33:=aR (st:=lM) l33 c33 k33
 have F34:=aR (st:=kE) l34 c34 k34
 have F35:=aR (st:=kW) l35 c35 k35
 have F36:=aR (st:=lJ) l36 c36 k36
 have F37:=aR (st:=lI) l37 c37 k37
 have F38:=aR (st:=lN) l38 c38 k38
 have F39:=aR (st:=lO) l39 c39 k39
 exact⟨⟨f0,_,f1,_,f2,_,f3,_,f4,_,f5,_,f6,_,f7,_,f8,_,f9,_,f10,_,f11,_,f12,_,f13,_,f14,_,f15,_,f16,_,f17,_,f18,_,f19,_,f20,_,f21,_,f22,_,f23,_,f24,_,f25,_,f26,_,f27,_,f28,_,f29,_,f30,_,f31,_,f32,_,f33,_,f34,_,f35,_,f36,_,f37,_,f38,_,f39,_,k_LeafError,k_NoText,k_TooGreat,k_NoName,k_NoRule,k_NoKind,k_NoTree,k_NoPlace,k_NoGiven,k_NoWalk,k_Ring⟩,⟨F0,bd1 (ps:=["term"]) F0 rfl (fun _ _ _ _ _ _ _=>rfl),PySem.W.mg_of X G a0,F1,bd1 (ps:=["term"]) F1 rfl (fun _ _ _ _ _ _ _=>rfl),PySem.W.mg_of X G a1,F2,bd2 (ps:=["rows", "name"]) F2 rfl (fun _ _ _ _ _ _ _ _=>rfl),PySem.W.mg_of X G a2,F3,bd2 (ps:=["grammar", "name"]) F3 rfl (fun _ _ _ _ _ _ _ _=>rfl),PySem.W.mg_of X G a3,F4,bd2 (ps:=["grammar", "name"]) F4 rfl (fun _ _ _ _ _ _ _ _=>rfl),PySem.W.mg_of X G a4,F5,bd3 (ps:=["form", "k", "name"]) F5 rfl (fun _ _ _ _ _ _ _ _ _=>rfl),PySem.W.mg_of X G a5,F6,bd1 (ps:=["tree"]) F6 rfl (fun _ _ _ _ _ _ _=>rfl),PySem.W.mg_of X G a6,F7,bd2 (ps:=["tree", "path"]) F7 rfl (fun _ _ _ _ _ _ _ _=>rfl),PySem.W.mg_of X G a7,F8,bd3 (ps:=["grammar", "tree", "path"]) F8 rfl (fun _ _ _ _ _ _ _ _ _=>rfl),PySem.W.mg_of X G a8,F9,bd2 (ps:=["grammar", "tree"]) F9 rfl (fun _ _ _ _ _ _ _ _=>rfl),PySem.W.mg_of X G a9,F10,bd5 (ps:=["grammar", "tree", "path", "k", "name"]) F10 rfl (fun _ _ _ _ _ _ _ _ _ _ _=>rfl),PySem.W.mg_of X G a10,F11,bd3 (ps:=["grammar", "tree", "spot"]) F11 rfl (fun _ _ _ _ _ _ _ _ _=>rfl),PySem.W.mg_of X G a11,F12,bd2 (ps:=["path", "pair"]) F12 rfl (fun _ _ _ _ _ _ _ _=>rfl),PySem.W.mg_of X G a12,F13,bd3 (ps:=["grammar", "tree", "spot"]) F13 rfl (fun _ _ _ _ _ _ _ _ _=>rfl),PySem.W.mg_of X G a13,F14,bd2 (ps:=["_law_script", "_law_many_here"]) F14 rfl (fun _ _ _ _ _ _ _ _=>rfl),PySem.W.mg_of X G a14,F15,bd2 (ps:=["_law_cell", "_law_k"]) F15 rfl (fun _ _ _ _ _ _ _ _=>rfl),PySem.W.mg_of X G a15,F16,bd1 (ps:=["_law_deck_here"]) F16 rfl (fun _ _ _ _ _ _ _=>rfl),PySem.W.mg_of X G a16,F17,bd2 (ps:=["_law_signs_here", "_law_at"]) F17 rfl (fun _ _ _ _ _ _ _ _=>rfl),PySem.W.mg_of X G a17,F18,bd2 (ps:=["_law_kind", "_law_one"]) F18 rfl (fun _ _ _ _ _ _ _ _=>rfl),PySem.W.mg_of X G a18,F19,bd2 (ps:=["_law_kind", "_law_cell"]) F19 rfl (fun _ _ _ _ _ _ _ _=>rfl),PySem.W.mg_of X G a19,F20,bd3 (ps:=["_law_kind", "_law_some", "_law_cell"]) F20 rfl (fun _ _ _ _ _ _ _ _ _=>rfl),PySem.W.mg_of X G a20,F21,bd4 (ps:=["_law_signs_here", "_law_name", "_law_at", "_law_deck_here"]) F21 rfl (fun _ _ _ _ _ _ _ _ _ _=>rfl),PySem.W.mg_of X G a21,F22,bd1 (ps:=["_law_deck_here"]) F22 rfl (fun _ _ _ _ _ _ _=>rfl),PySem.W.mg_of X G a22,F23,bd4 (ps:=["_law_grammar_here", "_law_sign", "_law_deck_here", "_law_room"]) F23 rfl (fun _ _ _ _ _ _ _ _ _ _=>rfl),PySem.W.mg_of X G a23,F24,bd1 (ps:=["_law_cell"]) F24 rfl (fun _ _ _ _ _ _ _=>rfl),PySem.W.mg_of X G a24,F25,bd3 (ps:=["_law_forms", "_law_many_here", "_law_cell"]) F25 rfl (fun _ _ _ _ _ _ _ _ _=>rfl),PySem.W.mg_of X G a25,F26,bd1 (ps:=["_law_deck_here"]) F26 rfl (fun _ _ _ _ _ _ _=>rfl),PySem.W.mg_of X G a26,F27,bd1 (ps:=["_law_term_here"]) F27 rfl (fun _ _ _ _ _ _ _=>rfl),PySem.W.mg_of X G a27,F28,bd1 (ps:=["_law_tree"]) F28 rfl (fun _ _ _ _ _ _ _=>rfl),PySem.W.mg_of X G a28,F29,bd3 (ps:=["_law_path", "_law_k", "_law_name"]) F29 rfl (fun _ _ _ _ _ _ _ _ _=>rfl),PySem.W.mg_of X G a29,F30,bd2 (ps:=["_law_grammar_here", "_law_tree"]) F30 rfl (fun _ _ _ _ _ _ _ _=>rfl),PySem.W.mg_of X G a30,F31,bd1 (ps:=["_law_found"]) F31 rfl (fun _ _ _ _ _ _ _=>rfl),PySem.W.mg_of X G a31,F32,bd2 (ps:=["_law_found", "_law_due"]) F32 rfl (fun _ _ _ _ _ _ _ _=>rfl),PySem.W.mg_of X G a32,F33,bd2 (ps:=["_law_found", "_law_due"]) F33 rfl (fun _ _ _ _ _ _ _ _=>rfl),PySem.W.mg_of X G a33,F34,bd3 (ps:=["_law_tree", "_law_path", "_law_cell"]) F34 rfl (fun _ _ _ _ _ _ _ _ _=>rfl),PySem.W.mg_of X G a34,F35,bd3 (ps:=["_law_used", "_law_near", "_law_cell"]) F35 rfl (fun _ _ _ _ _ _ _ _ _=>rfl),PySem.W.mg_of X G a35,F36,bd3 (ps:=["_law_grammar_here", "_law_tree", "_law_spot_here"]) F36 rfl (fun _ _ _ _ _ _ _ _ _=>rfl),PySem.W.mg_of X G a36,F37,bd3 (ps:=["_law_grammar_here", "_law_tree", "_law_due"]) F37 rfl (fun _ _ _ _ _ _ _ _ _=>rfl),PySem.W.mg_of X G a37,F38,bd4 (ps:=["_law_grammar_here", "_law_tree", "_law_spot_here", "_law_due"]) F38 rfl (fun _ _ _ _ _ _ _ _ _ _=>rfl),PySem.W.mg_of X G a38,F39,bd1 (ps:=["_law_script"]) F39 rfl (fun _ _ _ _ _ _ _=>rfl),PySem.W.mg_of X G a39,PySem.W.mg_none_of X G z_ValueError,PySem.W.mg_none_of X G z_bool,PySem.W.mg_none_of X G z_dict,PySem.W.mg_none_of X G z_enumerate,PySem.W.mg_none_of X G z_int,PySem.W.mg_none_of X G z_isinstance,PySem.W.mg_none_of X G z_len,PySem.W.mg_none_of X G z_list,PySem.W.mg_none_of X G z_min,PySem.W.mg_none_of X G z_range,PySem.W.mg_none_of X G z_reversed,PySem.W.mg_none_of X G z_str,PySem.W.mg_none_of X G z_tuple,PySem.W.mg_none_of X G z_zip,PySem.W.mg_of X G m_LeafError,e_LeafError,PySem.W.mg_of X G m_NoText,PySem.W.mg_of X G m_TooGreat,PySem.W.mg_of X G m_NoName,e_NoName,⟨e_NoName,xga_NoName,xgt_NoName,xca_NoName,xsp_NoName,xtk_NoName,xmo_NoName,xmb_NoName⟩,u_NoName_LeafError,i_NoName_0,i_NoName_1,i_NoName_2,PySem.W.mg_of X G m_NoRule,e_NoRule,⟨e_NoRule,xga_NoRule,xgt_NoRule,xca_NoRule,xsp_NoRule,xtk_NoRule,xmo_NoRule,xmb_NoRule⟩,u_NoRule_LeafError,i_NoRule_0,i_NoRule_1,i_NoRule_2,PySem.W.mg_of X G m_NoKind,PySem.W.mg_of X G m_NoTree,PySem.W.mg_of X G m_NoPlace,e_NoPlace,⟨e_NoPlace,xga_NoPlace,xgt_NoPlace,xca_NoPlace,xsp_NoPlace,xtk_NoPlace,xmo_NoPlace,xmb_NoPlace⟩,u_NoPlace_LeafError,i_NoPlace_0,i_NoPlace_1,i_NoPlace_2,PySem.W.mg_of X G m_NoGiven,PySem.W.mg_of X G m_NoWalk,PySem.W.mg_of X G m_Ring⟩⟩
end K41
namespace K41
open PySem L2 TR FT SP
open TM
theorem bD (a b:Str):(a++b).length=a.length+b.length:=by rw[bo,bo,bo,eP,List.length_append]
def iU (z:Str):Prop:=z.length <= 20000/\∀ c ∈ z.cps.toList,c < 128
theorem eT {d:Str} (h:iU d):(PyData.str d).shown.length <= 300000:=by
 have:=PyData.shown_le_bulk 8 (by decide) (.str d) (by
  simp only[PyData.leavesShort,List.all_eq_true,decide_eq_true_eq]
  intro c hc
  have:=h.2 c hc
  have e:(16:Nat) ^ 8=4294967296:=by decide
  omega)
 have e:PyData.bulk (.str d)=d.cps.size:=by simp only[PyData.bulk]
 have h3:d.cps.size <= 20000:=h.1
 rw[e] at this
 omega
theorem oR {c:TT} {t u:TS} {D:hX} {σ:St} {H:Hp} (A B:Hp->Prop) (hc:∀ Q:Bool->Hp->Prop,(∀ H1,A H1->Q true H1)->(∀ H1,B H1->Q false H1)->c σ H Q) (h1:∀ H1,A H1->t D σ H1) (h2:∀ H1,B H1->u D σ H1):tIfS c t u D σ H:=by
 refine hc _ (fun H1 a=>?_) (fun H1 b=>?_)
 ·exact mf (h1 H1 a)
 ·exact hW (h2 H1 b)
theorem kD {c:TT} {t u rest:TS} {D:hX} {σ:St} {H:Hp} (A B:Hp->Prop) (hc:∀ Q:Bool->Hp->Prop,(∀ H1,A H1->Q true H1)->(∀ H1,B H1->Q false H1)->c σ H Q) (h1:∀ H1,A H1->t { D with nx:=rest D } σ H1) (h2:∀ H1,B H1->u { D with nx:=rest D } σ H1):tSeq (tIfS c t u) rest D σ H:=oR A B hc h1 h2
theorem oK {c A B:Prop} [Decidable c] (h1:¬ c->A) (h2:c->B):if (!decide c)=true then A else B:=by
 by_cases h:c
 ·rw[decide_eq_true h]
  exact hW (h2 h)
 ·rw[decide_eq_false h]
  exact mf (h1 h)
def xn (H:Hp) (n:Str) (v:V):Prop:=∃ p r,v=.ref p/\H p=some (.tup (.str n::r))
def yC (H:Hp) (e:Int × Str) (v:V):Prop:=∃ p t,v=.ref p/\H p=some (.tup [.int e.1,.str e.2,t])
def xM (N:Addr):Sp:=fun vs H Q E=>∃ (a:Addr) (nms:List Str) (us:List V) (n:Str),vs=[.ref a,.str n]/\H a=some (.tup us)/\L2R (xn H) nms us/\iU n/\nms.Nodup/\((∃ (i:Nat) (v:V),us[i]?=some v/\nms[i]?=some n/\Q v H)\/(n ∉ nms/\E (.ref N) none H))
def vP (N:Addr):Sp:=fun vs H Q E=>∃ (f a:Addr) (x y z:V) (es:List (Int × Str)) (us:List V) (k:Int) (n:Str),vs=[.ref f,.int k,.str n]/\H f=some (.tup [x,y,z,.ref a])/\H a=some (.tup us)/\L2R (yC H) es us/\iU n/\0 <= k/\k <= 1000/\es.Nodup/\((∃ (i:Nat) (p:Addr) (t:V),us[i]?=some (.ref p)/\es[i]?=some (k,n)/\H p=some (.tup [.int k,.str n,t])/\Q t H)\/((k,n) ∉ es/\E (.ref N) none H))
def mW (N:Addr):Sp:=fun vs H Q E=>∃ (g a:Addr) (y:V) (nms:List Str) (us:List V) (n:Str),vs=[.ref g,.str n]/\H g=some (.tup [.ref a,y])/\H a=some (.tup us)/\L2R (xn H) nms us/\iU n/\nms.Nodup/\((∃ (i:Nat) (v:V),us[i]?=some v/\nms[i]?=some n/\Q v H)\/(n ∉ nms/\E (.ref N) none H))
def nc (N:Addr):Sp:=fun vs H Q E=>∃ (g a:Addr) (y:V) (nms:List Str) (us:List V) (n:Str),vs=[.ref g,.str n]/\H g=some (.tup [y,.ref a])/\H a=some (.tup us)/\L2R (xn H) nms us/\iU n/\nms.Nodup/\((∃ (i:Nat) (v:V),us[i]?=some v/\nms[i]?=some n/\Q v H)\/(n ∉ nms/\E (.ref N) none H))
theorem uH {α:Type} {l:List α} {i j:Nat} {x:α} (h:l.Nodup) (a:l[i]?=some x) (b:l[j]?=some x):i=j:=by
 obtain⟨hi,ei⟩:=List.getElem?_eq_some_iff.mp a
 obtain⟨hj,ej⟩:=List.getElem?_eq_some_iff.mp b
 have:=List.pairwise_iff_getElem.mp h
 rcases Nat.lt_trichotomy i j with c | c | c
 ·exact absurd (ei.trans ej.symm) (this i j hi hj c)
 ·exact c
 ·exact absurd (ej.trans ei.symm) (this j i hj hi c)
theorem qV {k:Nat} {A:Around} (r:Room k A):A.units+1 < cLine:=by have:=r.un;omega
theorem rR {P:Program} {w:World} {X:Cx}:gk (CXe P w) X E0:=fun _ _ _ _ _ _ _ h=>by
 obtain⟨_,_,_,_,_,z⟩:=h
 exact z.elim
theorem _root_.L2.Room.un80 {k:Nat} {A:Around} (r:Room k A):A.units+80 < cLine:=by have:=r.un;omega
theorem el {X:Cx} {K:W.Frag} (h:X.K=K):CallR X (.builtin "len") (fun xs H Q=>∃ p ys,xs=[V.ref p]/\(SqL K H p ys\/SqT K H p ys)/\Q (V.int ys.length) H):=h ▸ call_len_seq
theorem bj {H:Hp} {a b:Addr} {o:HO} (h:H a=some o) (n:H b=none):b ≠ a:=fun z=>by rw[z,h] at n;cases n
def tJ:Sp:=fun vs H Q _=>∃ (B:Hp) (t:Tm) (v:V),vs=[v]/\SameT B H/\TmIs B t v/\∀ b xs H',Same H H'->H' b=some (.tup xs)->xs.length <= 1000->TmsIs B (inner t) xs->Q (.ref b) H'
def mY (n:Nat):Sp:=fun vs H Q _=>∃ (t:Tm) (v:V),vs=[v]/\TmIs H t v/\depth t <= n/\bC t <= 1000/\∀ p ys H',H p=none->Same H H'->H' p=some (.lst ys)->IsPs H' (named t) ys->Q (.ref p) H'
noncomputable def tag:Tm->Str
 | .num _=>"num"
 | .text _=>"text"
 | .row=>"row"
 | .mark=>"mark"
 | .val _ _=>"of"
 | .call _ _=>"call"
theorem uP {H:Hp} {t:Tm} {v:V} (h:TmIs H t v):∃ a r,v=.ref a/\H a=some (.tup (.str (tag t)::r)):=by
 cases t with
 | call w ts=>
  unfold TmIs at h
  obtain⟨a,b,us,e,ha,_⟩:=h
  exact⟨a,_,e,ha⟩
 | _=>
  unfold TmIs at h
  obtain⟨a,e,ha⟩:=h
  exact⟨a,_,e,ha⟩
theorem vC {t:Tm} (h:uN t=false):decide (V.str (tag t)=V.str "of")=false:=by
 cases t with
 | val k z=>cases h
 | num n=>exact (by decide +kernel:decide (V.str "num" = V.str "of")=false)
 | text n=>exact (by decide +kernel:decide (V.str "text" = V.str "of")=false)
 | row=>exact (by decide +kernel:decide (V.str "row" = V.str "of")=false)
 | mark=>exact (by decide +kernel:decide (V.str "mark" = V.str "of")=false)
 | call w ts=>exact (by decide +kernel:decide (V.str "call" = V.str "of")=false)
def mX (n:Nat):Sp:=fun vs H Q _=>∃ t v,vs=[v]/\TrIs H t v/\kn t <= n+1/\size t <= 1000/\∀ D us H',Same H H'->H D=none->H' D=some (.lst us)->L2R (PthIs H') (gA t) us->Q (.ref D) H'
def yG (C:Addr):Sp:=fun vs H Q E=>∃ (t:Tr) (v:V) (q:List Int) (a:Addr),vs=[v,.ref a]/\TrIs H t v/\H a=some (.tup (q.map V.int))/\(∀ u y,atT q t=some u->TrIs H u y->Q y H)/\(atT q t=none->∀ H',Same H H'->E (.ref C) none H')
theorem _root_.TM.L2R.unapp {α:Type} {R:α->V->Prop}:∀ {as bs:List α} {vs:List V},L2R R (as++bs) vs->∃ xs ys,vs=xs++ys/\L2R R as xs/\L2R R bs ys
 | [],bs,vs,h=>⟨[],vs,rfl,.nil,h⟩
 | a::as,bs,_,.cons h1 h2=>by
  obtain⟨xs,ys,e,g1,g2⟩:=TM.L2R.unapp h2
  exact⟨_::xs,ys,by rw[e];rfl,.cons h1 g1,g2⟩
section
variable {P:Program} {w:World} {K:W.Frag} {mg:Str->Option Value} {base:Heap} {T:Adr}
theorem rT (X:Tx K mg T):FnOk P w K mg base (CXe P w) 1 T.qAR T.d_qAR ["rows", "name"] (xM T.k_NoName):=by
 refine X.F_qAR.okE sc_qAR (fun vs H Q E h=>?_) (fun cdv A outer s H vs Q E hr h=>?_)
 ·obtain⟨_,_,_,_,rfl,_⟩:=h
  rfl
 obtain⟨a,nms,us,n,rfl,ha,hn,tn,nd,hor⟩:=h
 refine⟨_,(ag (bq PassesOwn.leaving rfl (cw (qv 0)) (az (i:=2) sc_qAR.nd rfl (Or.inl rfl)) (ai (bp (aK bL (ao ar (qv 2) af (fun _ _=>rfl)) (qv 1) (aP _)) (ai (ay (qv 2))) aL))) (ai (eL rfl rfl X.m_NoName X.e_NoName (qaJ (jb (cZ aw (cZ (nN hr (qv 1)) nJ))) ae) eK))),?_⟩
 dsimp only[cm]
 have ln:=hn.len
 have ls:=eT tn
 have e0:Str.empty.length=0:=rfl
 have l1:(Str.ofString "nothing is called ").length=18:=by decide
 have hsz:sizeLine=16777216:=by decide
 refine⟨_,rfl,a,rfl,⟨_,SqT.of ha⟩,di (K:=K) (a:=a) (xs:=us) (fun i σ H'=>H'=H/\(∃ x2,σ=[some (.ref a),some (.str n),x2])/\∀ j < i,nms[j]? ≠ some n) ⟨rfl,⟨none,rfl⟩,(fun j hj=>absurd hj (Nat.not_lt_zero j))⟩ (fun i σ H' _ ⟨e,_⟩=>by rw[e];exact SqT.of ha) ?_ ?_⟩
 ·rintro i v σ H' hv ⟨rfl,⟨x2,rfl⟩,hno⟩
  obtain⟨m,hm,p,r,rfl,hp⟩:=hn.get hv
  refine⟨_,rfl,p,_,0,.str m,rfl,rfl,SqT.of hp,dB _ _,_,rfl,rfl,_,rfl,cW (fun h=>?_) (fun h=>?_)⟩
  ·have hmn:m=n:=V.str.inj h
   subst hmn
   rcases hor with ⟨i',v',h1,h2,q⟩ | ⟨hn',_⟩
   ·have:=uH nd h2 hm
    subst this
    rw[hv] at h1
    cases h1
    exact⟨_,rfl,q⟩
   ·exact absurd (List.mem_of_getElem? hm) hn'
  ·refine⟨rfl,⟨_,rfl⟩,fun j hj=>?_⟩
   rcases Nat.lt_succ_iff_lt_or_eq.mp hj with hj | rfl
   ·exact hno j hj
   ·intro z
    rw[hm] at z
    exact h (by rw[Option.some.inj z])
 ·rintro σ H' ⟨rfl,⟨x2,rfl⟩,hno⟩
  rcases hor with ⟨i,v,h1,h2,_⟩ | ⟨_,q⟩
  ·exact absurd h2 (hno i (aD h1))
  ·exact⟨_,rfl,by rw[bD,e0,l1];omega,_,rfl,.str _,.str _,by simp only[PyData.showable],by simp only[PyData.hasDict],by simp only[PyData.depth];decide,by omega,_,rfl,by rw[bD,bD,e0,l1];omega,(by show 1 <= 10;decide),q⟩
theorem lY (X:Tx K mg T):FnOk P w K mg base (CXe P w) 2 T.qAI T.d_qAI ["grammar", "name"] (mW T.k_NoName):=by
 have G_qAR:=rT (P:=P) (w:=w) (base:=base) X
 refine X.F_qAI.okE we (fun vs H Q E h=>?_) (fun cdv A outer s H vs Q E hr h=>?_)
 ·obtain⟨_,_,_,_,_,_,rfl,_⟩:=h
  rfl
 obtain⟨g,a,y,nms,us,n,rfl,hg,ha,hn,tn,nd,hor⟩:=h
 refine⟨_,(ai (ay (aq G_qAR hr rfl X.m_qAR X.F_qAR.kp X.b_qAR .nil cb (qaS (ao ar (qv 0) af (fun _ _=>rfl)) (qaN (qv 1) ae))))),?_⟩
 dsimp only[cm]
 exact⟨_,rfl,g,_,0,_,rfl,rfl,SqT.of hg,rfl,_,rfl,a,nms,us,n,rfl,ha,hn,tn,nd,hor⟩
theorem fW (X:Tx K mg T):FnOk P w K mg base (CXe P w) 2 T.qAK T.d_qAK ["grammar", "name"] (nc T.k_NoName):=by
 have G_qAR:=rT (P:=P) (w:=w) (base:=base) X
 refine X.F_qAK.okE wd (fun vs H Q E h=>?_) (fun cdv A outer s H vs Q E hr h=>?_)
 ·obtain⟨_,_,_,_,_,_,rfl,_⟩:=h
  rfl
 obtain⟨g,a,y,nms,us,n,rfl,hg,ha,hn,tn,nd,hor⟩:=h
 refine⟨_,(ai (ay (aq G_qAR hr rfl X.m_qAR X.F_qAR.kp X.b_qAR .nil cb (qaS (ao ar (qv 0) af (fun _ _=>rfl)) (qaN (qv 1) ae))))),?_⟩
 dsimp only[cm]
 exact⟨_,rfl,g,_,1,_,rfl,rfl,SqT.of hg,rfl,_,rfl,a,nms,us,n,rfl,ha,hn,tn,nd,hor⟩
theorem og (X:Tx K mg T):FnOk P w K mg base (CXe P w) 1 T.qAM T.d_qAM ["form", "k", "name"] (vP T.k_NoRule):=by
 refine X.F_qAM.okE sc_qAM (fun vs H Q E h=>?_) (fun cdv A outer s H vs Q E hr h=>?_)
 ·obtain⟨_,_,_,_,_,_,_,_,_,rfl,_⟩:=h
  rfl
 obtain⟨f,a,x,y,z,es,us,k,n,rfl,hf,ha,hn,tn,k0,k1,nd,hor⟩:=h
 refine⟨_,(ag (bq PassesOwn.leaving rfl (cw (ao ar (qv 0) af (fun _ _=>rfl))) (az (i:=3) sc_qAM.nd rfl (Or.inl rfl)) (ai (bp (lQ (jK (aK bL (ao ar (qv 3) af (fun _ _=>rfl)) (qv 1) (aP _)) (ja (aK bL (ao ar (qv 3) af (fun _ _=>rfl)) (qv 2) (aP _))))) (ai (ay (ao ar (qv 3) af (fun _ _=>rfl)))) aL))) (ai (eL rfl rfl X.m_NoRule X.e_NoRule (qaJ (jb (cZ aw (cZ (nN hr (qv 2)) (cZ aw (cZ (wC (qv 1)) nJ))))) ae) eK))),?_⟩
 dsimp only[cm]
 have ln:=hn.len
 have ls:=eT tn
 have e0:Str.empty.length=0:=rfl
 have l1:(Str.ofString "no rule is there for ").length=21:=by decide
 have l2:(Str.ofString " at ").length=4:=by decide
 have hsz:sizeLine=16777216:=by decide
 have lk:(Str.ofString (toString k)).length <= 18:=by rw[bo];exact (uC k0 (by omega)).2
 refine⟨_,rfl,f,_,3,_,rfl,rfl,SqT.of hf,rfl,a,rfl,⟨_,SqT.of ha⟩,di (K:=K) (a:=a) (xs:=us) (fun i σ H'=>H'=H/\(∃ x3,σ=[some (.ref f),some (.int k),some (.str n),x3])/\∀ j < i,es[j]? ≠ some (k,n)) ⟨rfl,⟨none,rfl⟩,(fun j hj=>absurd hj (Nat.not_lt_zero j))⟩ (fun i σ H' _ ⟨e,_⟩=>by rw[e];exact SqT.of ha) ?_ ?_⟩
 ·rintro i v σ H' hv ⟨rfl,⟨x3,rfl⟩,hno⟩
  obtain⟨⟨k',n'⟩,hm,p,t,rfl,hp⟩:=hn.get hv
  have hp:H' p=some (.tup [.int k',.str n',t]):=hp
  have step:¬ (k'=k/\n'=n)->∀ j < i+1,es[j]? ≠ some (k,n):=fun h j hj=>by
   rcases Nat.lt_succ_iff_lt_or_eq.mp hj with hj | rfl
   ·exact hno j hj
   ·intro z
    rw[hm] at z
    have:=Option.some.inj z
    exact h ⟨congrArg Prod.fst this,congrArg Prod.snd this⟩
  try dsimp only
  refine oR (fun H2=>H2=H'/\k'=k/\n'=n) (fun H2=>H2=H'/\¬ (k'=k/\n'=n)) (fun Q' qT qF=>?_) (fun H2 ⟨e,e1,e2⟩=>?_) (fun H2 ⟨e,hne⟩=>?_)
  ·refine⟨_,rfl,p,_,0,.int k',rfl,rfl,SqT.of hp,rfl,_,rfl,rfl,_,rfl,cW (fun h=>⟨_,rfl,p,_,1,.str n',rfl,rfl,SqT.of hp,rfl,_,rfl,rfl,_,rfl,?_⟩) (fun h=>qF _ ⟨rfl,fun z=>h (by rw[z.1])⟩)⟩
   by_cases h2:V.str n'=V.str n
   ·rw[decide_eq_true h2];exact qT _ ⟨rfl,V.int.inj h,V.str.inj h2⟩
   ·rw[decide_eq_false h2];exact qF _ ⟨rfl,fun z=>h2 (by rw[z.2])⟩
  ·subst e e1 e2
   rcases hor with ⟨i',p',t',h1,h2,h3,q⟩ | ⟨hn',_⟩
   ·have:=uH nd h2 hm
    subst this
    rw[hv] at h1
    cases h1
    rw[hp] at h3
    cases h3
    exact⟨_,rfl,p,_,2,_,rfl,rfl,SqT.of hp,rfl,q⟩
   ·exact absurd (List.mem_of_getElem? hm) hn'
  ·subst e
   exact⟨rfl,⟨_,rfl⟩,step hne⟩
 ·rintro σ H' ⟨rfl,⟨x3,rfl⟩,hno⟩
  rcases hor with ⟨i,p,t,h1,h2,_⟩ | ⟨_,q⟩
  ·exact absurd h2 (hno i (aD h1))
  ·exact⟨_,rfl,by rw[bD,e0,l1];omega,_,rfl,.str _,.str _,by simp only[PyData.showable],by simp only[PyData.hasDict],by simp only[PyData.depth];decide,by omega,_,rfl,by rw[bD,bD,e0,l1];omega,_,rfl,by rw[bD,bD,bD,e0,l1,l2];omega,_,rfl,.inr ⟨k,rfl,nj k0 (by show k < (1000000000000000000:Int);omega),_,rfl,by rw[bD,bD,bD,bD,e0,l1,l2];omega,(by show 1 <= 10;decide),q⟩⟩
theorem qJ (X:Tx K mg T):FnOk P w K mg base CX0 1 T.qA T.d_qA ["term"] tJ:=by
 refine X.F_qA.okQ xQ (fun vs H Q E h=>?_) (fun cdv A outer s H vs Q E hr h=>?_)
 ·obtain⟨_,_,_,rfl,_⟩:=h
  rfl
 obtain⟨B,t,v,rfl,sB,hB,q⟩:=h
 have hv:=TmIs.same sB t hB
 refine⟨_,(ag (bp (aK bL (ao ar (qv 0) af (fun _ _=>rfl)) aw (aP _)) (ai (ay (ao ar (qv 0) af (fun _ _=>rfl)))) aL) (ai (ay (ak ae)))),?_⟩
 dsimp only[cm]
 cases t with
 | call w ts=>
  unfold TmIs at hv hB
  obtain⟨a,b,us,rfl,ha,hb,hn,hs⟩:=hv
  obtain⟨a',b',us',e,ha',hb',hn',hs'⟩:=hB
  cases e
  have e1:=(sB _ _ ha').symm.trans ha
  cases e1
  have e2:=(sB _ _ hb').symm.trans hb
  cases e2
  refine⟨_,rfl,a,_,0,_,rfl,rfl,SqT.of ha,rfl,rfl,_,rfl,vy (by decide +kernel) ?_⟩
  exact⟨_,rfl,a,_,2,_,rfl,rfl,SqT.of ha,rfl,q b _ H (Same.refl H) hb hn hs'⟩
 | num n=>
  unfold TmIs at hv
  obtain⟨a,rfl,ha⟩:=hv
  refine⟨_,rfl,a,_,0,_,rfl,rfl,SqT.of ha,rfl,rfl,_,rfl,pN (by decide +kernel) ?_⟩
  exact⟨(by show 0 <= sizeLine;decide),fun p hp=>q p [] _ (ac hp _) aa (by decide) (by show TmsIs _ [] [];unfold TmsIs;rfl)⟩
 | text z=>
  unfold TmIs at hv
  obtain⟨a,rfl,ha⟩:=hv
  refine⟨_,rfl,a,_,0,_,rfl,rfl,SqT.of ha,rfl,rfl,_,rfl,pN (by decide +kernel) ?_⟩
  exact⟨(by show 0 <= sizeLine;decide),fun p hp=>q p [] _ (ac hp _) aa (by decide) (by show TmsIs _ [] [];unfold TmsIs;rfl)⟩
 | row=>
  unfold TmIs at hv
  obtain⟨a,rfl,ha⟩:=hv
  refine⟨_,rfl,a,_,0,_,rfl,rfl,SqT.of ha,rfl,rfl,_,rfl,pN (by decide +kernel) ?_⟩
  exact⟨(by show 0 <= sizeLine;decide),fun p hp=>q p [] _ (ac hp _) aa (by decide) (by show TmsIs _ [] [];unfold TmsIs;rfl)⟩
 | mark=>
  unfold TmIs at hv
  obtain⟨a,rfl,ha⟩:=hv
  refine⟨_,rfl,a,_,0,_,rfl,rfl,SqT.of ha,rfl,rfl,_,rfl,pN (by decide +kernel) ?_⟩
  exact⟨(by show 0 <= sizeLine;decide),fun p hp=>q p [] _ (ac hp _) aa (by decide) (by show TmsIs _ [] [];unfold TmsIs;rfl)⟩
 | val k z=>
  unfold TmIs at hv
  obtain⟨a,rfl,ha⟩:=hv
  refine⟨_,rfl,a,_,0,_,rfl,rfl,SqT.of ha,rfl,rfl,_,rfl,pN (by decide +kernel) ?_⟩
  exact⟨(by show 0 <= sizeLine;decide),fun p hp=>q p [] _ (ac hp _) aa (by decide) (by show TmsIs _ [] [];unfold TmsIs;rfl)⟩
theorem jS (X:Tx K mg T):∀ n,FnOk P w K mg base CX0 (n+2) T.qAZ T.d_qAZ ["term"] (mY n)
 | 0=>by
  refine X.F_qAZ.okQ sc_qAZ (fun vs H Q E h=>?_) (fun cdv A outer s H vs Q E hr h=>?_)
  ·obtain⟨_,_,rfl,_⟩:=h
   rfl
  ·obtain⟨t,_,_,_,hd,_⟩:=h
   have:=iH t
   omega
 | n+1=>by
  have G_qA:=(qJ (P:=P) (w:=w) (base:=base) X).mono (show 1 <= n+2 by omega)
  have G_qAZ:=jS X n
  refine X.F_qAZ.okQ sc_qAZ (fun vs H Q E h=>?_) (fun cdv A outer s H vs Q E hr h=>?_)
  ·obtain⟨_,_,rfl,_⟩:=h
   rfl
  obtain⟨t,v,rfl,hv,hd,hpt,q⟩:=h
  refine⟨_,(ag (bp (aK bL (ao ar (qv 0) af (fun _ _=>rfl)) aw (aP _)) (ai (ay (aV (qaT (ak (qaS (ao ar (qv 0) af (fun _ _=>rfl)) (qaS (ao ar (qv 0) af (fun _ _=>rfl)) ae))) ae)))) aL) (ag (am (i:=1) sc_qAZ.nd rfl (Or.inl rfl) (aV ae)) (ag (bq PassesOwn.never rfl (cw (aq G_qA hr rfl X.m_qA X.F_qA.kp X.b_qA .nil aW (qaN (qv 0) ae))) (az (i:=2) sc_qAZ.nd rfl (Or.inl rfl)) (ai (bq PassesOwn.never rfl (bB (aq G_qAZ hr rfl X.m_qAZ X.F_qAZ.kp X.b_qAZ .nil aW (qaN (qv 2) ae))) (az (i:=3) sc_qAZ.nd rfl (Or.inl rfl)) (ai (bp (aK (ir hr.units) (qv 3) (qv 1) rfl) (ai (bU (eB PySem.F.plainAttrs_list PySem.F.slot_list_append PySem.F.type_list_append bg (qv 1) (qaN (qv 3) ae)))) aL))))) (ai (ay (qv 1)))))),?_⟩
  dsimp only[cm]
  cases hval:uN t with
  | true=>
   cases t with
   | val k z=>
    unfold TmIs at hv
    obtain⟨a,rfl,ha⟩:=hv
    refine⟨_,rfl,a,_,0,_,rfl,rfl,SqT.of ha,rfl,rfl,_,rfl,vy (by decide +kernel) ?_⟩
    refine⟨_,rfl,a,_,1,_,rfl,rfl,SqT.of ha,rfl,_,rfl,a,_,2,_,rfl,rfl,SqT.of ha,rfl,(by show 2 <= sizeLine;decide),fun p hp=>⟨(by show 1 <= sizeLine;decide),fun l hl=>?_⟩⟩
    have s1:=ac hp (.tup [V.int k,V.str z])
    have s2:=ac hl (.lst [V.ref p])
    refine q l _ _ (s1.free hl) (s1.trans s2) aa ?_
    rw[named]
    exact IsPs.one ⟨p,rfl,s2 _ _ aa⟩
   | _=>cases hval
  | false=>
   obtain⟨a,r,rfl,ha⟩:=uP hv
   refine⟨_,rfl,a,_,0,_,rfl,rfl,SqT.of ha,dB _ _,rfl,_,rfl,pN (vC hval) ?_⟩
   refine⟨(by show 0 <= sizeLine;decide),fun f hf=>?_⟩
   have s1:=ac hf (.lst [])
   refine⟨_,rfl,H,t,_,rfl,au s1,hv,fun b xs H2 s2 hb hn hs=>⟨b,rfl,⟨_,SqT.of hb⟩,?_⟩⟩
   refine di (K:=K) (a:=b) (xs:=xs) (fun i σ H'=>∃ ys x y,σ=[some (.ref a),some (.ref f),x,y]/\Same H H'/\H' b=some (.tup xs)/\H' f=some (.lst ys)/\IsPs H' (((inner t).take i).foldl (fun a u=>uni a (named u)) []) ys)
    ⟨[],none,none,rfl,s1.trans s2,hb,s2 _ _ aa,rfl⟩ (fun i σ H' _ ⟨_,_,_,_,_,h,_⟩=>SqT.of h) ?_ ?_
   ·rintro i x σ H' hx ⟨ys,x0,y0,rfl,sm,hb',hf',hps⟩
    obtain⟨u,hu,hux⟩:=hs.get hx
    have hmem:=List.mem_of_getElem? hu
    have hdu:=fv hmem
    have hpu:=eY hmem
    refine⟨_,rfl,u,x,rfl,TmIs.same (au sm) u hux,by omega,by omega,fun p zs H3 hp3 s3 hz3 hps3=>⟨p,rfl,⟨_,SqL.of hz3⟩,?_⟩⟩
    have hacc:=kc t i
    generalize hacc':((inner t).take i).foldl (fun a u=>uni a (named u)) []=acc at hps hacc
    have hnl:=cM u
    have hzl:=hps3.len
    have hpf:p ≠ f:=fun z=>by rw[z,hf'] at hp3;cases hp3
    refine cq (K:=K) (a:=p) (xs:=zs) (fun j σ H4=>∃ ys y,σ=[some (.ref a),some (.ref f),some x,y]/\Same H H4/\H4 b=some (.tup xs)/\H4 p=some (.lst zs)/\H4 f=some (.lst ys)/\j <= zs.length/\IsPs H4 (uni acc ((named u).take j)) ys/\IsPs H4 (named u) zs)
     ⟨ys,_,rfl,sm.trans s3,s3 _ _ hb',hz3,s3 _ _ hf',Nat.zero_le _,hps.same (au s3),hps3⟩ (fun j σ H4 _ ⟨_,_,_,_,_,h,_⟩=>SqL.of h) ?_ ?_
    ·rintro j pv σ H4 hj ⟨ys4,y4,rfl,sm4,hb4,hp4,hf4,hjl,hps4,hpz4⟩
     obtain⟨pr,hpr,hprv⟩:=hpz4.get hj
     refine⟨_,rfl,_,rfl,f,ys4,daP pr,_,rfl,SqL.of hf4,uM hprv,oN hps4,Nat.le_trans (vd _) (by decide),_,rfl,?_⟩
     have hst:uni acc ((named u).take (j+1))=cX (uni acc ((named u).take j)) pr:=by
      rw[cK hpr]
      unfold uni
      rw[List.foldl_append]
      rfl
     have hjlt:=aD hj
     by_cases hin:pr ∈ uni acc ((named u).take j)
     ·refine pN (by rw[rF,decide_eq_true hin];rfl) ?_
      refine⟨ys4,_,rfl,sm4,hb4,hp4,hf4,hjlt,?_,hpz4⟩
      rw[hst]
      unfold cX
      rw[if_pos hin]
      exact hps4
     ·refine vy (by rw[rF,decide_eq_false hin];rfl) ?_
      have hlen:ys4.length < sizeLine:=by
       have h1:=iW ((named u).take j) acc
       have h2:=hps4.len
       rw[List.length_take] at h1
       exact bM (by omega)
      refine⟨_,rfl,.inl ⟨rfl,_,SqL.of hf4⟩,_,rfl,f,ys4,pv,rfl,rfl,hf4,hlen,?_⟩
      have sT:=aI (ys:=ys4++[pv]) hf4
      refine⟨ys4++[pv],_,rfl,aN hf sm4,?_,?_,aa,hjlt,?_,hpz4.same sT⟩
      ·rw[av (eJ hb4 hf4 (fun z=>nomatch z))]
       exact hb4
      ·rw[av hpf]
       exact hp4
      ·rw[hst]
       unfold cX
       rw[if_neg hin]
       exact (hps4.same sT).app (IsPs.one (hprv.same sT))
    ·rintro σ H4 ⟨ys4,y4,rfl,sm4,hb4,hp4,hf4,hjl,hps4,hpz4⟩
     refine⟨ys4,_,_,rfl,sm4,hb4,hf4,?_⟩
     rw[cK hu,List.foldl_append,hacc']
     rw[List.take_of_length_le (by omega)] at hps4
     exact hps4
   ·rintro σ H' ⟨ys,x0,y0,rfl,sm,hb',hf',hps⟩
    refine⟨_,rfl,q f ys H' hf sm hf' ?_⟩
    rw[qR hval]
    rw[List.take_of_length_le (by have:=hs.len;omega)] at hps
    exact hps
theorem qG (X:Tx K mg T):∀ n:Nat,FnOk P w K mg base CX0 (n+1) T.qAV T.d_qAV ["tree"] (mX n):=by
 have step:∀ (n:Nat) (sp:Sp),FnOk P w K mg base CX0 n T.qAV T.d_qAV ["tree"] sp->(∀ (t:Tr) (v:V) (H:Hp) (Q:VK) (E:XK),TrIs H t v->kn t <= n->size t <= 1000->(∀ D us H',Same H H'->H D=none->H' D=some (.lst us)->L2R (PthIs H') (gA t) us->Q (.ref D) H')->sp [v] H Q E)->FnOk P w K mg base CX0 (n+1) T.qAV T.d_qAV ["tree"] (mX n):=by
  intro n sp G_qAV hsp
  refine X.F_qAV.okQ sc_qAV (fun vs H Q E h=>?_) (fun cdv A outer s H vs Q E hr h=>?_)
  ·obtain⟨_,_,rfl,_⟩:=h
   rfl
  obtain⟨t,v,rfl,hv,hd,hz,q⟩:=h
  refine⟨_,(ag (am (i:=1) sc_qAV.nd rfl (Or.inl rfl) (aV (qaT (ak ae) ae))) (ag (bq PassesOwn.never rfl (ww rfl X.z_enumerate (ao ar (qv 0) af (fun _ _=>rfl))) (dF rfl (aQ (az (i:=2) sc_qAV.nd rfl (Or.inr rfl)) (aQ (az (i:=3) sc_qAV.nd rfl (Or.inl rfl)) bY))) (ai (bU (eB PySem.F.plainAttrs_list PySem.F.slot_list_extend PySem.F.type_list_extend iz (qv 1) (qaE (bH (ys:=["k"]) (js:=[2]) rfl rfl (bB (aq G_qAV hr rfl X.m_qAV X.F_qAV.kp X.b_qAV .nil aW (qaN (qv 3) ae))) (fun _ _ _ _ _=>bE) (fun _ _ _ _ _=>(aj cy (ak (qaN (qv 1) ae)) (qv 0)))) ae))))) (ai (ay (qv 1))))),?_⟩
  dsimp only[cm]
  obtain⟨p,b,vs,rfl,hp,hb,hvs⟩:=hv.op
  have lvs:=hvs.len
  have lbs:=sF hz
  refine⟨(by show 0 <= sizeLine;decide),fun e he=>⟨(by show 1 <= sizeLine;decide),fun D hD=>?_⟩⟩
  have s1:=ac he (.tup [])
  have s2:=ac hD (.lst [.ref e])
  have he2:=s2 _ _ (aa (H:=H) (a:=e) (o:=.tup []))
  have hD2:=aa (H:=upd H e (.tup [])) (a:=D) (o:=.lst [.ref e])
  have s12:=s1.trans s2
  have fD:H D=none:=s1.free hD
  generalize upd (upd H e (.tup [])) D (.lst [.ref e])=H2 at he2 hD2 s12 ⊢
  refine⟨_,rfl,p,_,2,_,rfl,rfl,SqT.of (s12 _ _ hp),rfl,b,vs,rfl,SqT.of (s12 _ _ hb),sf (fun i σ H'=>∃ x2 x3 us,σ=[some (.ref p),some (.ref D),x2,x3]/\Same H H'/\H' D=some (.lst us)/\L2R (PthIs H') ([]::bI 1 (t.bs.take i)) us)
   ⟨none,none,_,rfl,s12,hD2,?_⟩ (fun i σ H' _ ⟨_,_,_,_,sm,_⟩=>SqT.of (sm _ _ hb)) ?_ ?_⟩
  ·rw[List.take_zero,bI]
   exact .cons ⟨e,rfl,he2⟩ .nil
  ·rintro i T' vs' σ H' hi ⟨x,hx,rfl⟩ ⟨x2,x3,us,rfl,sm,hDi,hus⟩ hT
   obtain⟨u,hu,hui⟩:=hvs.get hx
   have um:u ∈ t.bs:=List.mem_of_getElem? hu
   have du:=pq um
   have zu:=nk um
   have s3:=ac hT (.tup [.int ((i:Int)+1),x])
   refine⟨T',_,rfl,SqT.of aa,rfl,_,_,rfl,_,_,rfl,rfl,?_⟩
   have hD3:=s3 _ _ hDi
   refine⟨_,rfl,.inl ⟨rfl,_,SqL.of hD3⟩,_,rfl,hsp u x _ _ _ (TrIs.same (au (sm.trans s3)) u hui) (by omega) (by omega) fun D2 us2 H4 s4 nD2 hD4 hus4=>?_⟩
   have lu4:=hus4.len
   have lp:(gA u).length=size u:=gy u
   have sm4:=sm.trans (s3.trans s4)
   refine⟨D2,rfl,⟨_,SqL.of hD4⟩,fun D3 nD3=>?_⟩
   refine iJ (K:=K) (R:=fun H q v=>PthIs H (((i:Int)+1)::q) v) (as:=gA u) (OffD.ofT fun _ _ _ _ e r=>PthIs.same e r) (bM (by omega)) (by omega) (SqL.of hD4) nD3 (fun j y q H5 hy hq s5 _ Q' k=>?_) (fun ys H5 s5 hD5 hys=>?_)
   ·obtain⟨q',hq',c,rfl,hc⟩:=hus4.get hy
    rw[hq] at hq'
    cases hq'
    have pl:=fS u (List.mem_of_getElem? hq)
    have dl:=bV u
    refine⟨_,rfl,(by show 1 <= sizeLine;decide),fun t1 ht1=>?_⟩
    have s6:=ac ht1 (.tup [.int ((i:Int)+1)])
    refine⟨_,rfl,t1,c,_,_,rfl,rfl,aa,s6 _ _ (s5 _ _ hc),bP (by rw[List.length_map];show 1+q.length <= 100000;omega),fun t2 H7 s7 h7=>k _ _ (s6.trans s7) ⟨t2,rfl,h7⟩⟩
   ·have hDf:=s5 _ _ (s4 _ _ hD3)
    have lus:=hus.len
    have ly:=hys.len
    have lt:([]::bI 1 (t.bs.take i)).length <= 1001:=by
     rw[List.length_cons,eV]
     have a:=fR i t.bs
     have:=eS t
     omega
    refine⟨D,D3,_,_,rfl,rfl,hDf,hD5,bP (by omega),_,_,us++ys,rfl,aN fD (sm4.trans s5),aa,?_⟩
    have ee:([]::bI 1 (t.bs.take (i+1)))=([]::bI 1 (t.bs.take i))++(gA u).map ((1+(i:Int))::·):=by
     rw[aJ hu,lU]
     have li:(t.bs.take i).length=i:=by rw[List.length_take];have:=aD hu;omega
     rw[li]
     rfl
    rw[ee]
    have tD:=aI (ys:=us++ys) hDf
    refine (hus.imp fun _ _=>PthIs.same (((au (s3.trans (s4.trans s5)))).trans tD)).app ?_
    have:∀ {qs:List (List Int)} {zs:List V},L2R (fun q v=>PthIs H5 (((i:Int)+1)::q) v) qs zs->L2R (PthIs (upd H5 D (.lst (us++ys)))) (qs.map ((1+(i:Int))::·)) zs:=by
     intro qs zs h
     induction h with
     | nil=>exact .nil
     | cons h1 _ ih=>
      refine .cons ?_ ih
      rw[Int.add_comm]
      exact PthIs.same tD h1
    exact this hys
  ·rintro σ H' ⟨x2,x3,us,rfl,sm,hDi,hus⟩
   rw[lvs,List.take_length] at hus
   exact⟨_,rfl,q D us H' sm fD hDi (by rw[tV];exact hus)⟩
 intro n
 induction n with
 | zero=>exact step 0 (fun _ _ _ _=>False) ⟨fun _ _ _ _ h=>h.elim,fun _ _ _ _ _ _ _ _ _ _ _ _ _ h=>h.elim⟩ (fun t v H Q E _ hd _ _=>by have:=pk t;omega)
 | succ n ih=>exact step (n+1) _ ih fun t v H Q E hv hd hz q=>⟨t,v,rfl,hv,hd,hz,q⟩
theorem wP (X:Tx K mg T):FnOk P w K mg base (CXe P w) 1 T.qAD T.d_qAD ["tree", "path"] (yG T.k_NoPlace):=by
 refine X.F_qAD.okE sc_qAD (fun vs H Q E h=>?_) (fun cdv A outer s H vs Q E hr h=>?_)
 ·obtain⟨_,_,_,_,rfl,_⟩:=h
  rfl
 obtain⟨t,v,q,a,rfl,hv,ha,qy,qn⟩:=h
 refine⟨_,(ag (am (i:=2) sc_qAD.nd rfl (Or.inl rfl) (qv 0)) (ag (bq PassesOwn.leaving rfl (cw (qv 1)) (az (i:=3) sc_qAD.nd rfl (Or.inl rfl)) (ag (bp (cv (qe wM wM af (qv 3) (ax call_len_seq rfl X.z_len PySem.boot_len (qaS (ao ar (qv 2) af (fun _ _=>rfl)) ae)))) (ai (eL rfl rfl X.m_NoPlace X.e_NoPlace (qaC aw ae) eK)) aL) (ai (am (i:=2) sc_qAD.nd rfl (Or.inl rfl) (ao ar (ao ar (qv 2) af (fun _ _=>rfl)) (aj cx (qv 3) af) (fun _ _=>rfl)))))) (ai (ay (qv 2))))),?_⟩
 dsimp only[cm]
 refine⟨_,rfl,?_⟩
 refine⟨_,rfl,a,rfl,⟨_,SqT.of ha⟩,di (K:=K) (a:=a) (xs:=q.map V.int) (fun i σ H'=>H'=H/\∃ u y x3,σ=[some v,some (.ref a),some y,x3]/\TrIs H u y/\atT (q.take i) t=some u) ⟨rfl,t,v,none,rfl,hv,rfl⟩ (fun i σ H' _ ⟨e,_⟩=>by rw[e];exact SqT.of ha) ?_ ?_⟩
 ·rintro i y σ H' hy ⟨rfl,u,y',x3,rfl,hu,hat⟩
  rw[List.getElem?_map] at hy
  obtain⟨k,hk,rfl⟩:=Option.map_eq_some_iff.mp hy
  obtain⟨p,b,us,rfl,hp,hb,hus⟩:=hu.op
  have lus:=hus.len
  have hno:(k < 1\/(u.bs.length:Int) < k)->E (.ref T.k_NoPlace) none H':=fun h=>qn (by
   have e:q=q.take i++k::q.drop (i+1):=by
    obtain⟨hi,e⟩:=List.getElem?_eq_some_iff.mp hk
    rw[<- e,<- List.drop_eq_getElem_cons hi,List.take_append_drop]
   rw[e]
   exact jz hat h) _ (Same.refl _)
  refine⟨_,rfl,_,_,rfl,rfl,_,rfl,cW (fun h1=>?_) (fun h1=>?_)⟩
  ·refine⟨_,rfl,p,_,2,_,rfl,rfl,SqT.of hp,rfl,b,us,rfl,.inr (SqT.of hb),_,_,rfl,rfl,_,rfl,oK (fun h2=>?_) (fun h2=>?_)⟩
   ·exact⟨(by show 1 <= 10;decide),hno (.inr (by omega))⟩
   ·have hkj:(k - 1).toNat < us.length:=by omega
    obtain⟨z,hz⟩:=aH hkj
    obtain⟨c,hc,hcz⟩:=hus.get hz
    have ek:k - 1=(((k - 1).toNat:Nat):Int):=by omega
    refine⟨_,rfl,p,_,2,_,rfl,rfl,SqT.of hp,rfl,_,rfl,_,_,rfl,rfl,b,us,_,z,rfl,rfl,SqT.of hb,by rw[ek];exact bt hz,rfl,c,z,_,rfl,hcz,?_⟩
    rw[aJ hk,dO,hat]
    show atT [k] u=some c
    unfold atT
    rw[if_pos h1,hc]
    rfl
  ·exact⟨_,rfl,vy rfl ⟨(by show 1 <= 10;decide),hno (.inl (by omega))⟩⟩
 ·rintro σ H' ⟨rfl,u,y,x3,rfl,hu,hat⟩
  rw[List.length_map,List.take_length] at hat
  exact⟨_,rfl,qy u y hat hu⟩
end
end K41
namespace K41
open PySem L2 TR FT SP
open TM
theorem xO {H:Hp} {s:Sg} {v:V} (h:SgIs H s v):xn H s.nm v:=by
 obtain⟨p,a,b,us,ws,e,hp,_⟩:=h
 exact⟨p,_,e,hp⟩
theorem xc {H:Hp} {s:Fm} {v:V} (h:FmIs H s v):xn H s.nm v:=by
 obtain⟨p,a,b,us,e,hp,_⟩:=h
 exact⟨p,_,e,hp⟩
theorem L2R.mapL {α β:Type} {R:α->V->Prop} {S:β->V->Prop} (f:α->β) (h:∀ a v,R a v->S (f a) v):∀ {as:List α} {vs:List V},L2R R as vs->L2R S (as.map f) vs
 | _,_,.nil=>.nil
 | _,_,.cons x y=>.cons (h _ _ x) (L2R.mapL f h y)
theorem cF {α:Type} {R:α->V->Prop}:∀ {as:List α} {vs:List V} {i:Nat} {a:α},L2R R as vs->as[i]?=some a->∃ v,vs[i]?=some v/\R a v
 | _,_,i,a,.nil,h=>by simp at h
 | _,_,0,a,.cons h1 h2,h=>by
  simp at h
  subst h
  exact⟨_,rfl,h1⟩
 | _,_,i+1,a,.cons h1 h2,h=>by
  obtain⟨v,x,y⟩:=cF h2 (show _=some a by simpa using h)
  exact⟨v,by simpa using x,y⟩
def Kp (S:List Addr) (H H':Hp):Prop:=∀ b o,b ∉ S->H b=some o->H' b=some o
theorem Kp.refl (S:List Addr) (H:Hp):Kp S H H:=fun _ _ _ h=>h
theorem Kp.trans {S:List Addr} {H H1 H2:Hp} (a:Kp S H H1) (b:Kp S H1 H2):Kp S H H2:=fun c o n h=>b c o n (a c o n h)
theorem Kp.same {S:List Addr} {H H1 H2:Hp} (a:Kp S H H1) (b:Same H1 H2):Kp S H H2:=fun c o n h=>b c o (a c o n h)
theorem Kp.upd {S:List Addr} {H H1:Hp} {a:Addr} {o:HO} (h:Kp S H H1) (m:a ∈ S):Kp S H (upd H1 a o):=fun c u n e=>by
 have ne:c ≠ a:=fun z=>n (by rw[z];exact m)
 rw[av ne]
 exact h c u n e
theorem Kp.of {S:List Addr} {H H':Hp} (s:Same H H'):Kp S H H':=fun c o _ h=>s c o h
theorem Kp.mono {S S':List Addr} {H H':Hp} (h:Kp S H H') (m:∀ a ∈ S,a ∈ S'):Kp S' H H':=fun c o n e=>h c o (fun z=>n (m c z)) e
theorem Kp.T {S:List Addr} {H H':Hp} (h:Kp S H H') (m:∀ a ∈ S,∃ xs,H a=some (.lst xs)):SameT H H':=fun b xs e=>h b _ (fun z=>by
 obtain⟨ys,q⟩:=m b z
 rw[q] at e
 cases e) e
theorem Kp.free {S:List Addr} {H H':Hp} (h:Kp S H H') {a:Addr} (hn:H' a=none) (m:a ∉ S):H a=none:=by
 cases e:H a with
 | none=>rfl
 | some o=>rw[h a o m e] at hn;cases hn
theorem bW {α:Type} {l:List α} (h:0 < l.length):∃ a x,l=a++[x]:=by
 cases e:l.reverse with
 | nil=>rw[List.reverse_eq_nil_iff.mp e] at h;exact absurd h (by simp)
 | cons x r=>exact⟨r.reverse,x,by rw[<- List.reverse_reverse l,e,List.reverse_cons]⟩
theorem ma {z:Str} (h:pK z):iU z:=by
 obtain⟨_,h2,h3⟩:=h
 refine⟨by rw[bo];omega,fun x hx=>?_⟩
 have:=h3 x hx
 unfold oz at this
 rw[Bool.and_eq_true,decide_eq_true_eq,decide_eq_true_eq] at this
 omega
structure GrW (g:Gr):Prop where
 sw:∀ s ∈ g.sg,pK s.nm/\∀ n ∈ cY s,pK n
 fw:∀ f ∈ g.fm,pK f.nm
 tw:∀ f ∈ g.fm,∀ r ∈ f.ru,depth r.tm <= 12/\bC r.tm <= 1000
structure GT (g:Gr) (t:Tr):Prop where
 G:GrF g
 W:GrW g
 ft:∃ s,fit (frs g) t=some s
 sz:size t <= 60
def SpIs (H:Hp) (sp:bJ) (v:V):Prop:=∃ a b,v=.ref a/\H a=some (.tup [.ref b,.str sp.2])/\H b=some (.tup (sp.1.map V.int))
theorem SpIs.same {H H':Hp} (e:SameT H H') {sp:bJ} {v:V} (h:SpIs H sp v):SpIs H' sp v:=by
 obtain⟨a,b,x,y,z⟩:=h
 exact⟨a,b,x,e _ _ y,e _ _ z⟩
theorem yT {b:Bool} {c A B:Prop} [Decidable c] (e:b=decide c) (h1:c->A) (h2:¬ c->B):if b=true then A else B:=by
 subst e
 exact cW h1 h2
theorem ya {b:Bool} {c A B:Prop} [Decidable c] (e:b=decide c) (h1:¬ c->A) (h2:c->B):if (!b)=true then A else B:=by
 subst e
 exact oK h1 h2
abbrev kvP (p:Str × Str):Key × V:=(.inr p.1,.str p.2)
theorem je {H:Hp}:∀ {ps:List (Str × Str)} {us:List V},L2R (PrIs H) ps us->PrsT H us (ps.map kvP)
 | _,_,.nil=>.nil
 | _,_,.cons ⟨a,e,h⟩ r=>.cons ⟨a,e,h⟩ (je r)
theorem kh (ps:List (Str × Str)) (n:Str):(dP (bx [] (ps.map kvP)) (.inr n)).isSome=decide (n ∈ ps.map Prod.fst):=by
 have h:=iA (ps.map kvP) [] (.inr n)
 have e:(Sum.inr n:Key) ∈ (ps.map kvP).map Prod.fst ↔ n ∈ ps.map Prod.fst:=by
  rw[List.map_map]
  constructor
  ·intro h
   obtain⟨p,hp,e⟩:=List.mem_map.mp h
   exact List.mem_map.mpr ⟨p,hp,Sum.inr.inj e⟩
  ·intro h
   obtain⟨p,hp,rfl⟩:=List.mem_map.mp h
   exact List.mem_map.mpr ⟨p,hp,rfl⟩
 rw[e] at h
 by_cases hn:n ∈ ps.map Prod.fst
 ·rw[decide_eq_true hn]
  exact h.mpr (.inr hn)
 ·rw[decide_eq_false hn]
  cases hb:(dP (bx [] (ps.map kvP)) (.inr n)).isSome with
  | false=>rfl
  | true=>
   rcases h.mp hb with z | z
   ·cases z
   ·exact absurd z hn
theorem xR {H:Hp} {r:Ru} {v:V} (h:RuIs H r v):yC H (keyR r) v:=by
 obtain⟨p,u,e,hp,_⟩:=h
 exact⟨p,u,e,hp⟩
def pV (N:Addr):Sp:=fun vs H Q E=>∃ (g:Gr) (t:Tr) (vg vt:V) (a:Addr) (p:List Int),vs=[vg,vt,.ref a]/\GrIs H g vg/\GT g t/\TrIs H t vt/\H a=some (.tup (p.map V.int))/\(∀ u v,atT p t=some u->SgIs H (sgn g u) v->Q v H)/\(atT p t=none->∀ H',Same H H'->E (.ref N) none H')
def tf:Sp:=fun vs H Q _=>∃ (g:Gr) (t:Tr) (vg vt:V),vs=[vg,vt]/\GrIs H g vg/\GT g t/\TrIs H t vt/\∀ D us H',Same H H'->H D=none->H' D=some (.lst us)->L2R (SpIs H') (aE g t) us->Q (.ref D) H'
def tu:Sp:=fun vs H Q _=>∃ (g:Gr) (t u:Tr) (r:Ru) (vg vt:V) (a:Addr) (p:List Int) (k:Int) (n:Str),vs=[vg,vt,.ref a,.int k,.str n]/\GrIs H g vg/\GT g t/\TrIs H t vt/\H a=some (.tup (p.map V.int))/\atT p t=some u/\r ∈ (fmT g u.nm).ru/\keyR r=(k,n)/\iU n /\
 ∀ x y H',Same H H'->H' x=some (.tup [.ref a,.int u.mk',y])->TmIs H' r.tm y->Q (.ref x) H'
def pX:Sp:=fun vs H Q _=>∃ (a:Addr) (p:List Int) (q:Pr) (v:V),vs=[.ref a,v]/\H a=some (.tup (p.map V.int))/\IsP H q v/\p.length <= 1000/\∀ y H',Same H H'->SpIs H' (bT p q) y->Q y H'
def pW (N:Addr):Sp:=fun vs H Q E=>∃ (g:Gr) (t:Tr) (vg vt v:V) (sp:bJ),vs=[vg,vt,v]/\GrIs H g vg/\GT g t/\TrIs H t vt/\SpIs H sp v/\iU sp.2/\sp.1.length <= 1000 /\
 (∀ (q:List Int) (r:Ru) (x b:Addr) (m:Int) (y:V) H',sp ∈ aE g t->bf g t sp=uD q r.tm->depth r.tm <= 12->bC r.tm <= 1000->q.length <= 1000->Same H H'->H' x=some (.tup [.ref b,.int m,y])->H' b=some (.tup (q.map V.int))->TmIs H' r.tm y->Q (.ref x) H') /\
 (sp ∈ aE g t->bf g t sp=[]->∀ H',Same H H'->Q .non H')/\(sp ∉ aE g t->∀ H',Same H H'->E (.ref N) none H')
def tE (N:Addr):Sp:=fun vs H Q E=>∃ (g:Gr) (t:Tr) (vg vt v:V) (sp:bJ),vs=[vg,vt,v]/\GrIs H g vg/\GT g t/\TrIs H t vt/\SpIs H sp v/\iU sp.2/\sp.1.length <= 1000 /\
 (sp ∈ aE g t->∀ D us H',Same H H'->H D=none->H' D=some (.lst us)->L2R (SpIs H') (bf g t sp) us->Q (.ref D) H')/\(sp ∉ aE g t->∀ H',Same H H'->E (.ref N) none H')
theorem gP {H:Hp}:∀ {ps:List Pr} {vs:List V},IsPs H ps vs->L2R (IsP H) ps vs
 | [],vs,h=>by
  have:vs=[]:=h
  subst this
  exact .nil
 | p::ps,vs,h=>by
  obtain⟨v,r,rfl,h1,h2⟩:=h
  exact .cons h1 (gP h2)
theorem L2R.mapM {α β:Type} {R:β->V->Prop} (f:α->β):∀ {as:List α} {vs:List V},L2R (fun a v=>R (f a) v) as vs->L2R R (as.map f) vs
 | _,_,.nil=>.nil
 | _,_,.cons x y=>.cons x (L2R.mapM f y)
theorem uG {t:Tr} {i:Nat} {p:List Int} (h:(gA t)[i]?=some p):∃ u,(nds [] t)[i]?=some (p,u)/\atT p t=some u:=by
 rw[<- oq,List.getElem?_map] at h
 cases e:(nds [] t)[i]? with
 | none=>rw[e] at h;cases h
 | some x=>
  obtain⟨q,u⟩:=x
  rw[e] at h
  cases h
  exact⟨u,rfl,nds_iff.mp (List.mem_of_getElem? e)⟩
section
variable {P:Program} {w:World} {K:W.Frag} {mg:Str->Option Value} {base:Heap} {T:Adr}
theorem iw (X:Tx K mg T):FnOk P w K mg base (CXe P w) 3 T.qAP T.d_qAP ["grammar", "tree", "path"] (pV T.k_NoPlace):=by
 have G_qAI:=lY (P:=P) (w:=w) (base:=base) X
 have G_qAK:=fW (P:=P) (w:=w) (base:=base) X
 have G_qAD:=(wP (P:=P) (w:=w) (base:=base) X).mono (show 1 <= 2 by decide)
 refine X.F_qAP.okE wc (fun vs H Q E h=>?_) (fun cdv A outer s H vs Q E hr h=>?_)
 ·obtain⟨_,_,_,_,_,_,rfl,_⟩:=h
  rfl
 obtain⟨g,t,vg,vt,a,p,rfl,hg,gt,ht,ha,qy,qn⟩:=h
 refine⟨_,(ai (ay (aq G_qAI hr rfl X.m_qAI X.F_qAI.kp X.b_qAI .nil cb (qaN (qv 0) (qaS (ao ar (aq G_qAK hr rfl X.m_qAK X.F_qAK.kp X.b_qAK .nil cb (qaN (qv 0) (qaS (ao ar (aq G_qAD hr rfl X.m_qAD X.F_qAD.kp X.b_qAD .nil cb (qaN (qv 1) (qaN (qv 2) ae))) af (fun _ _=>rfl)) ae))) af (fun _ _=>rfl)) ae))))),?_⟩
 dsimp only[cm]
 obtain⟨gp,ga,gb,gus,gws,rfl,hgp,hga,hsg,hgb,hfm⟩:=hg
 refine⟨_,rfl,_,rfl,_,rfl,_,rfl,t,vt,p,a,rfl,ht,ha,fun u y hat hu=>?_,fun hn H' s'=>qn hn H' s'⟩
 obtain⟨s,hs⟩:=gt.ft
 obtain⟨fm,fn,_⟩:=cf gt.G hs hat
 obtain⟨sm,sn⟩:=bX gt.G hs hat
 obtain⟨pu,bu,vsu,rfl,hpu,_,_⟩:=hu.op
 obtain⟨i,hi⟩:=List.getElem?_of_mem fm
 obtain⟨vf,hvf,fis⟩:=cF hfm hi
 obtain⟨fp,fa,fb,fus,rfl,hfp,_,_,_⟩:=fis
 obtain⟨j,hj⟩:=List.getElem?_of_mem sm
 obtain⟨vs',hvs,sis⟩:=cF hsg hj
 refine⟨pu,_,0,_,rfl,rfl,SqT.of hpu,rfl,gp,gb,_,g.fm.map Fm.nm,gws,u.nm,rfl,hgp,hgb,L2R.mapL Fm.nm (fun _ _ h=>xc h) hfm,by rw[<- fn];exact ma (gt.W.fw _ fm),gt.G.fn,.inl ⟨i,_,hvf,by rw[List.getElem?_map,hi];show some (fmT g u.nm).nm=_;rw[fn],?_⟩⟩
 exact⟨fp,_,1,_,rfl,rfl,SqT.of hfp,rfl,gp,ga,_,g.sg.map Sg.nm,gus,_,rfl,hgp,hga,L2R.mapL Sg.nm (fun _ _ h=>xO h) hsg,by rw[<- sn];exact ma (gt.W.sw _ sm).1,gt.G.sn,.inl ⟨j,_,hvs,by rw[List.getElem?_map,hj,<- sn];rfl,qy u _ hat sis⟩⟩
theorem qC (X:Tx K mg T):FnOk P w K mg base CX0 70 T.qAX T.d_qAX ["grammar", "tree"] tf:=by
 have G_qAV:=(qG (P:=P) (w:=w) (base:=base) X 60).mono (show 61 <= 69 by decide)
 have G_qAP:=(iw (P:=P) (w:=w) (base:=base) X).mono (show 3 <= 69 by decide)
 refine X.F_qAX.okQ sc_qAX (fun vs H Q E h=>?_) (fun cdv A outer s H vs Q E hr h=>?_)
 ·obtain⟨_,_,_,_,rfl,_⟩:=h
  rfl
 obtain⟨g,t,vg,vt,rfl,hg,gt,ht,q⟩:=h
 refine⟨_,(ag (am (i:=2) sc_qAX.nd rfl (Or.inl rfl) (aV ae)) (ag (bq PassesOwn.never rfl (bB (aq G_qAV hr rfl X.m_qAV X.F_qAV.kp X.b_qAV .nil aW (qaN (qv 1) ae))) (az (i:=3) sc_qAX.nd rfl (Or.inr rfl)) (ag (am (i:=4) sc_qAX.nd rfl (Or.inl rfl) (aq G_qAP hr rfl X.m_qAP X.F_qAP.kp X.b_qAP .nil rR (qaN (qv 0) (qaN (qv 1) (qaN (qv 3) ae))))) (ai (bU (eB PySem.F.plainAttrs_list PySem.F.slot_list_extend PySem.F.type_list_extend iz (qv 2) (qaE (jN (ts:=["name", "kind"]) (ys:=["path"]) (js:=[3]) rfl rfl (cw (aj cy (ao ar (qv 4) af (fun _ _=>rfl)) (ao ar (qv 4) af (fun _ _=>rfl)))) (fun _ _ _ _ _=>nM (K:=K) (n:=2) rfl rfl (aQ (az (i:=0) (show (["name", "kind", "path"]:List Str).Nodup by decide) rfl (Or.inl rfl)) (aQ (az (i:=1) (show (["name", "kind", "path"]:List Str).Nodup by decide) rfl (Or.inl rfl)) bY))) (fun _ _ _ _ _=>bE) (fun _ _ _ _ _=>(ak (qaN (qv 2) (qaN (qv 0) ae))))) ae)))))) (ai (ay (qv 2))))),?_⟩
 dsimp only[cm]
 have sz:=gt.sz
 have dz:=bV t
 obtain⟨s0,hs⟩:=gt.ft
 refine⟨(by show 0 <= sizeLine;decide),fun D nD=>?_⟩
 have s1:=ac nD (.lst [])
 refine⟨_,rfl,t,vt,rfl,TrIs.same (au s1) t ht,by omega,by omega,fun L us H2 s2 nL hL hus=>?_⟩
 have hD2:=s2 _ _ (aa (H:=H) (a:=D) (o:=.lst []))
 have nLD:L ≠ D:=fun e=>by rw[e,aa] at nL;cases nL
 have s12:=s1.trans s2
 have lus:=hus.len
 rw[gy] at lus
 refine⟨L,rfl,⟨_,SqL.of hL⟩,cq (K:=K) (a:=L) (xs:=us) (fun i σ H'=>∃ x3 x4 ws,σ=[some vg,some vt,some (.ref D),x3,x4]/\Kp [D] H2 H'/\H' D=some (.lst ws)/\L2R (SpIs H') (bG g ((nds [] t).take i)) ws)
  ⟨none,none,[],rfl,Kp.refl _ _,hD2,.nil⟩ (fun i σ H' _ ⟨_,_,_,_,kp,_⟩=>SqL.of (kp _ _ (by simpa using nLD) hL)) ?_ ?_⟩
 ·rintro i v σ H' hv ⟨x3,x4,ws,rfl,kp,hD',hws⟩
  have T1:SameT H2 H':=kp.T fun x hx=>⟨[],by rw[List.mem_singleton.mp hx];exact hD2⟩
  have TH:=(au s12).trans T1
  obtain⟨p,hp,c,rfl,hc⟩:=hus.get hv
  obtain⟨u,hnu,hat⟩:=uG hp
  refine⟨_,rfl,_,rfl,_,rfl,g,t,vg,vt,c,p,rfl,GrIs.same TH hg,gt,TrIs.same TH t ht,T1 _ _ hc,fun u' v' hat' sis=>?_,fun hn=>by rw[hat] at hn;cases hn⟩
  rw[hat] at hat'
  cases hat'
  obtain⟨sm,_⟩:=bX gt.G hs hat
  have vl:=gt.G.vl _ sm
  obtain⟨ps,da,ua,dus,uus,rfl,hps,hda,hdn,hua,hup⟩:=sis
  have ld:=hdn.len
  have lu:=hup.len
  refine⟨_,rfl,.inl ⟨rfl,_,SqL.of hD'⟩,_,rfl,ps,_,1,_,rfl,rfl,SqT.of hps,rfl,_,rfl,ps,_,2,_,rfl,rfl,SqT.of hps,rfl,da,ua,dus,uus,rfl,rfl,hda,hua,bP (by omega),fun tt H3 s3 htt=>⟨tt,rfl,⟨_,SqT.of htt⟩,fun D3 nD3=>?_⟩⟩
  have prs:L2R (PrIs H3) ((sgn g u).dn++(sgn g u).up) (dus++uus):=(hdn.imp fun _ _ h=>PrIs.same (au s3) h).app (hup.imp fun _ _ h=>PrIs.same (au s3) h)
  have lprs:=prs.len
  have hc3:=s3 _ _ (T1 _ _ hc)
  refine ml (K:=K) (R:=fun H (x:Str × Str) v=>SpIs H (p,x.1) v) (as:=(sgn g u).dn++(sgn g u).up) (OffD.ofT fun _ _ _ _ e h=>SpIs.same e h) (bM (by rw[lprs,List.length_append];omega)) lprs.symm (SqT.of htt) nD3 (fun j x b H4 hx hb s4 Q' k=>?_) (fun ys H4 s4 hD4 hys=>?_)
  ·obtain⟨b',hb',c',rfl,hc'⟩:=prs.get hx
   rw[hb] at hb'
   cases hb'
   refine⟨c',_,rfl,SqT.of (s4 _ _ hc'),rfl,_,_,rfl,_,_,rfl,rfl,[some (.str b.1),some (.str b.2)],rfl,rfl,?_⟩
   refine⟨_,rfl,_,rfl,(by show 2 <= sizeLine;decide),fun y ny=>?_⟩
   have s5:=ac ny (.tup [.ref c,.str b.1])
   exact k _ _ s5 ⟨y,c,rfl,aa,s5 _ _ (s4 _ _ hc3)⟩
  ·have s34:=s3.trans s4
   have ly:=hys.len
   have lw:=hws.len
   have lt4:(bG g ((nds [] t).take i)).length <= 4 * size t:=by
    have:=dk gt.G (xs:=(nds [] t).take i) fun x hx=>(bX gt.G hs (nds_iff.mp (show (x.1,x.2) ∈ nds [] t from List.mem_of_mem_take hx))).1
    have l2:=cU t (p:=[])
    rw[List.length_take] at this
    omega
   have hD5:=s34 _ _ hD'
   have nDD:D3 ≠ D:=bj (s3 _ _ hD') nD3
   refine⟨D,D3,ws,ys,rfl,rfl,hD5,hD4,bP (by rw[List.length_append] at ly;omega),_,_,ws++ys,rfl,(kp.same s34).upd (by simp),aa,?_⟩
   have tD:=aI (ys:=ws++ys) hD5
   rw[aJ hnu,eu,er]
   refine (hws.imp fun _ _ h=>SpIs.same ((au s34).trans tD) h).app ?_
   have e:(cY (sgn g u)).map (fun n=>(p,n))=((sgn g u).dn++(sgn g u).up).map fun x=>(p,x.1):=by
    unfold cY
    rw[List.map_map]
    rfl
   show L2R _ ((cY (sgn g u)).map fun n=>(p,n)) ys
   rw[e]
   exact L2R.mapM (R:=SpIs _) (fun (x:Str × Str)=>(p,x.1)) (hys.imp fun _ _ h=>SpIs.same tD h)
 ·rintro σ H' ⟨x3,x4,ws,rfl,kp,hD',hws⟩
  rw[lus,<- cU t (p:=[]),List.take_length] at hws
  refine⟨_,rfl,q D ws H' (fun b o hb=>kp _ _ (by simpa using aG hb nD) (s12 _ _ hb)) nD hD' hws⟩
theorem oi (X:Tx K mg T):FnOk P w K mg base CX0 1 T.qAC T.d_qAC ["path", "pair"] pX:=by
 refine X.F_qAC.okQ wf (fun vs H Q E h=>?_) (fun cdv A outer s H vs Q E hr h=>?_)
 ·obtain⟨_,_,_,_,rfl,_⟩:=h
  rfl
 obtain⟨a,p,q,v,rfl,ha,⟨c,rfl,hc⟩,lp,k⟩:=h
 refine⟨_,(ai (ay (ak (qaI (qh (aK bL (ao ar (qv 1) af (fun _ _=>rfl)) af (aP _)) (qv 0) (aj cy (qv 0) (ak (qaS (ao ar (qv 1) af (fun _ _=>rfl)) ae)))) (qaS (ao ar (qv 1) af (fun _ _=>rfl)) ae))))),?_⟩
 dsimp only[cm]
 refine⟨_,rfl,c,_,0,.int q.1,rfl,rfl,SqT.of hc,rfl,rfl,_,rfl,cW (fun h=>?_) (fun h=>?_)⟩
 ·have h0:q.1=0:=V.int.inj h
  refine⟨_,rfl,_,rfl,c,_,1,.str q.2,rfl,rfl,SqT.of hc,rfl,(by show 2 <= sizeLine;decide),fun x nx=>?_⟩
  have s1:=ac nx (.tup [.ref a,.str q.2])
  refine k _ _ s1 ⟨x,a,rfl,aa,?_⟩
  unfold bT
  rw[if_pos h0]
  exact s1 _ _ ha
 ·have h0:¬ q.1=0:=fun z=>h (by rw[z])
  refine⟨_,rfl,_,rfl,c,_,0,.int q.1,rfl,rfl,SqT.of hc,rfl,(by show 1 <= sizeLine;decide),fun x nx=>?_⟩
  have s1:=ac nx (.tup [.int q.1])
  refine⟨a,x,_,_,rfl,rfl,s1 _ _ ha,aa,bP (by rw[List.length_map];show p.length+1 <= 100000;omega),fun y H2 s2 hy=>?_⟩
  have s12:=s1.trans s2
  refine⟨_,rfl,c,_,1,.str q.2,rfl,rfl,SqT.of (s12 _ _ hc),rfl,(by show 2 <= sizeLine;decide),fun z nz=>?_⟩
  have s3:=ac nz (.tup [.ref y,.str q.2])
  refine k _ _ (s12.trans s3) ⟨z,y,rfl,aa,?_⟩
  unfold bT
  rw[if_neg h0]
  show _=some (HO.tup ((p++[q.1]).map V.int))
  rw[List.map_append]
  exact s3 _ _ hy
theorem qE (X:Tx K mg T):FnOk P w K mg base (CXe P w) 3 T.qAJ T.d_qAJ ["grammar", "tree", "path", "k", "name"] tu:=by
 have G_qAK:=fW (P:=P) (w:=w) (base:=base) X
 have G_qAD:=(wP (P:=P) (w:=w) (base:=base) X).mono (show 1 <= 2 by decide)
 have G_qAM:=(og (P:=P) (w:=w) (base:=base) X).mono (show 1 <= 2 by decide)
 refine X.F_qAJ.okE sc_qAJ (fun vs H Q E h=>?_) (fun cdv A outer s H vs Q E hr h=>?_)
 ·obtain⟨_,_,_,_,_,_,_,_,_,_,rfl,_⟩:=h
  rfl
 obtain⟨g,t,u,r,vg,vt,a,p,k,n,rfl,hg,gt,ht,ha,hat,hr',hkey,tn,q⟩:=h
 refine⟨_,(ag (am (i:=5) sc_qAJ.nd rfl (Or.inl rfl) (aq G_qAD hr rfl X.m_qAD X.F_qAD.kp X.b_qAD .nil cb (qaN (qv 1) (qaN (qv 2) ae)))) (ai (ay (ak (qaN (qv 2) (qaS (ao ar (qv 5) af (fun _ _=>rfl)) (qaK (aq G_qAM hr rfl X.m_qAM X.F_qAM.kp X.b_qAM .nil cb (qaK (aq G_qAK hr rfl X.m_qAK X.F_qAK.kp X.b_qAK .nil cb (qaN (qv 0) (qaS (ao ar (qv 5) af (fun _ _=>rfl)) ae))) (qaN (qv 3) (qaN (qv 4) ae)))) ae))))))),?_⟩
 dsimp only[cm]
 obtain⟨gp,ga,gb,gus,gws,rfl,hgp,hga,hsg,hgb,hfm⟩:=hg
 obtain⟨s,hs⟩:=gt.ft
 obtain⟨fm,fn,_⟩:=cf gt.G hs hat
 refine⟨_,rfl,_,rfl,t,vt,p,a,rfl,ht,ha,fun u' y hat' hu=>?_,fun hn=>by rw[hat] at hn;cases hn⟩
 rw[hat] at hat'
 cases hat'
 obtain⟨pu,bu,vsu,rfl,hpu,_,_⟩:=hu.op
 obtain⟨i,hi⟩:=List.getElem?_of_mem fm
 obtain⟨vf,hvf,fis⟩:=cF hfm hi
 obtain⟨fp,fa,fb,fus,rfl,hfp,hfa,hfb,hru⟩:=fis
 obtain⟨j,hj⟩:=List.getElem?_of_mem hr'
 obtain⟨vr,hvr,ris⟩:=cF hru hj
 obtain⟨pr,tv,rfl,hpr,htm⟩:=ris
 have e1:r.k=k:=congrArg Prod.fst hkey
 have e2:r.nm=n:=congrArg Prod.snd hkey
 subst e1 e2
 have kb:0 <= r.k/\r.k <= 1000:=by
  rcases (gt.G.rd _ fm r.k r.nm).mp (List.mem_map.mpr ⟨r,hr',rfl⟩) with ⟨e,_⟩ | ⟨i',b',hb',e,_⟩
  ·omega
  ·have:=aD hb'
   have:=(gt.G.br _ fm).1
   omega
 refine⟨_,rfl,_,rfl,pu,_,1,_,rfl,rfl,SqT.of hpu,rfl,_,rfl,_,rfl,pu,_,0,_,rfl,rfl,SqT.of hpu,rfl,gp,gb,_,g.fm.map Fm.nm,gws,u.nm,rfl,hgp,hgb,L2R.mapL Fm.nm (fun _ _ h=>xc h) hfm,by rw[<- fn];exact ma (gt.W.fw _ fm),gt.G.fn,.inl ⟨i,_,hvf,by rw[List.getElem?_map,hi];show some (fmT g u.nm).nm=_;rw[fn],?_⟩⟩
 refine⟨_,rfl,_,rfl,fp,fb,_,_,_,(fmT g u.nm).ru.map keyR,fus,r.k,r.nm,rfl,hfp,hfb,L2R.mapL keyR (fun _ _ h=>xR h) hru,tn,kb.1,kb.2,gt.G.rn _ fm,.inl ⟨j,pr,tv,hvr,by rw[List.getElem?_map,hj];rfl,hpr,(by show 3 <= sizeLine;decide),fun x nx=>?_⟩⟩
 have s1:=ac nx (.tup [.ref a,.int u.mk',tv])
 exact q x tv _ s1 aa (TmIs.same (au s1) _ htm)
theorem oh (X:Tx K mg T):FnOk P w K mg base (CXe P w) 4 T.qAN T.d_qAN ["grammar", "tree", "spot"] (pW T.k_NoPlace):=by
 have G_qAP:=iw (P:=P) (w:=w) (base:=base) X
 have G_qAJ:=qE (P:=P) (w:=w) (base:=base) X
 refine X.F_qAN.okE sc_qAN (fun vs H Q E h=>?_) (fun cdv A outer s H vs Q E hr h=>?_)
 ·obtain⟨_,_,_,_,_,_,rfl,_⟩:=h
  rfl
 obtain⟨g,t,vg,vt,v,⟨p,n⟩,rfl,hg,gt,ht,⟨a,b,rfl,ha,hb⟩,tn,lp,qy,qr,qn⟩:=h
 have ha:H a=some (.tup [.ref b,.str n]):=ha
 have hb:H b=some (.tup (p.map V.int)):=hb
 have tn:iU n:=tn
 have lp:p.length <= 1000:=lp
 refine⟨_,(ag (am (i:=3) sc_qAN.nd rfl (Or.inl rfl) (ao ar (qv 2) af (fun _ _=>rfl))) (ag (am (i:=4) sc_qAN.nd rfl (Or.inl rfl) (ao ar (qv 2) af (fun _ _=>rfl))) (ag (am (i:=5) sc_qAN.nd rfl (Or.inl rfl) (aq G_qAP hr rfl X.m_qAP X.F_qAP.kp X.b_qAP .nil cb (qaN (qv 0) (qaN (qv 1) (qaN (qv 3) ae))))) (ag (bp (aK (wN (qV hr)) (qv 4) (aY (gj rfl) rfl X.z_dict PyProof.Rows.boot_dict (qaS (ao ar (qv 5) af (fun _ _=>rfl)) ae)) rfl) (ai (ay (aq G_qAJ hr rfl X.m_qAJ X.F_qAJ.kp X.b_qAJ .nil cb (qaN (qv 0) (qaN (qv 1) (qaN (qv 3) (qaC af (qaN (qv 4) ae)))))))) aL) (ag (bp (aK (nX (qV hr)) (qv 4) (aY (gj rfl) rfl X.z_dict PyProof.Rows.boot_dict (qaS (ao ar (qv 5) af (fun _ _=>rfl)) ae)) rfl) (ai (eL rfl rfl X.m_NoPlace X.e_NoPlace (qaJ (jb (cZ aw (cZ (nN hr (qv 4)) nJ))) ae) eK)) aL) (ag (bp (aK bL (ax call_len_seq rfl X.z_len PySem.boot_len (qaN (qv 3) ae)) af (aP _)) (ai (ay wB)) aL) (ai (ay (aq G_qAJ hr rfl X.m_qAJ X.F_qAJ.kp X.b_qAJ .nil cb (qaN (qv 0) (qaN (qv 1) (qaS (bc eA (qv 3) bA (bz (qf jI af))) (qaS (ao ar (qv 3) (qf jI af) (fun _ _=>rfl)) (qaN (qv 4) ae)))))))))))))),?_⟩
 dsimp only[cm]
 obtain⟨s0,hs⟩:=gt.ft
 refine⟨_,rfl,a,_,0,_,rfl,rfl,SqT.of ha,rfl,?_⟩
 refine⟨_,rfl,a,_,1,_,rfl,rfl,SqT.of ha,rfl,?_⟩
 refine⟨_,rfl,_,rfl,_,rfl,g,t,vg,vt,b,p,rfl,hg,gt,ht,hb,fun u v hat sis=>?_,fun hn H' s'=>qn (fun hm=>by
  obtain⟨u,hu,_⟩:=mem_spots.mp hm
  have hu:atT p t=some u:=hu
  rw[hn] at hu
  cases hu) H' s'⟩
 obtain⟨fm,fn,_⟩:=cf gt.G hs hat
 obtain⟨sm,_⟩:=bX gt.G hs hat
 have vl:=gt.G.vl _ sm
 obtain⟨ps,da,ua,dus,uus,rfl,hps,hda,hdn,hua,hup⟩:=sis
 have ld:=hdn.len
 have lu:=hup.len
 have inS:n ∈ cY (sgn g u)->(p,n) ∈ aE g t:=fun h=>mem_spots.mpr ⟨u,hat,h⟩
 refine⟨_,rfl,_,rfl,ps,_,2,_,rfl,rfl,SqT.of hps,rfl,ua,uus,_,rfl,hua,by omega,je hup,fun d nd=>?_⟩
 have s1:=ac nd (.dK (bx [] ((sgn g u).up.map kvP)))
 refine⟨d,_,.inr n,rfl,rfl,aa,_,rfl,yT (kh _ n) (fun hU=>?_) (fun hU=>?_)⟩
 ·obtain⟨r,hr',ek⟩:=List.mem_map.mp ((gt.G.rd _ fm 0 n).mpr (.inl ⟨rfl,hU⟩))
  have tw:=gt.W.tw _ fm r hr'
  have T1:=au s1
  refine⟨_,rfl,_,rfl,_,rfl,_,rfl,g,t,u,r,vg,vt,b,p,0,n,rfl,GrIs.same T1 hg,gt,TrIs.same T1 t ht,s1 _ _ hb,hat,hr',ek,tn,fun x y H' s' hx hy=>?_⟩
  refine qy p r x b _ y H' (inS (by rw[dG];exact List.mem_append_right _ hU)) ?_ tw.1 tw.2 lp (s1.trans s') hx ((s1.trans s') _ _ hb) hy
  have e1:r.k=0:=congrArg Prod.fst ek
  have e2:r.nm=n:=congrArg Prod.snd ek
  rw[jT hat hU,<- mR (gt.G.rn _ fm) hr',e1,e2]
 ·generalize upd H d (.dK (bx [] ((sgn g u).up.map kvP)))=H1 at s1 ⊢
  refine⟨_,rfl,_,rfl,ps,_,1,_,rfl,rfl,SqT.of (s1 _ _ hps),rfl,da,dus,_,rfl,s1 _ _ hda,by omega,je (hdn.imp fun _ _ h=>PrIs.same (au s1) h),fun d2 nd2=>?_⟩
  have s2:=ac nd2 (.dK (bx [] ((sgn g u).dn.map kvP)))
  have s12:=s1.trans s2
  refine⟨d2,_,.inr n,rfl,rfl,aa,_,rfl,ya (kh _ n) (fun hD=>?_) (fun hD=>?_)⟩
  ·have ls:=eT tn
   have e0:Str.empty.length=0:=rfl
   have l1:(Str.ofString "the node has no value ").length=22:=by decide
   have hsz:sizeLine=16777216:=by decide
   refine⟨_,rfl,by rw[bD,e0,l1];omega,_,rfl,.str _,.str _,by simp only[PyData.showable],by simp only[PyData.hasDict],by simp only[PyData.depth];decide,by omega,_,rfl,by rw[bD,bD,e0,l1];omega,(by show 1 <= 10;decide),qn (fun hm=>?_) _ s12⟩
   obtain⟨u',hu',hn⟩:=mem_spots.mp hm
   have hu':atT p t=some u':=hu'
   rw[hat] at hu'
   cases hu'
   have hn:n ∈ cY (sgn g u):=hn
   rw[dG] at hn
   rcases List.mem_append.mp hn with h | h
   ·exact hD h
   ·exact hU h
  ·generalize upd H1 d2 (.dK (bx [] ((sgn g u).dn.map kvP)))=H2 at s2 s12 ⊢
   have hin:=inS (by rw[dG];exact List.mem_append_left _ hD)
   refine⟨_,rfl,b,_,rfl,.inr (SqT.of (s12 _ _ hb)),rfl,_,rfl,cW (fun h=>?_) (fun h=>?_)⟩
   ·have l0:p=[]:=by
     have:=V.int.inj h
     rw[List.length_map] at this
     exact List.length_eq_zero_iff.mp (by omega)
    subst l0
    cases hat
    exact qr hin (fX hU) _ s12
   ·have l0:p ≠ []:=fun z=>h (by rw[z];rfl)
    obtain⟨p',k,rfl⟩ : ∃ p' k,p=p'++[k]:=⟨p.dropLast,p.getLast l0,(List.dropLast_concat_getLast l0).symm⟩
    obtain⟨v,hv,k1,k2,hc⟩:=nh hat
    obtain⟨b',hb',_,es⟩:=fG gt.G hs hv hc
    obtain⟨vm,_,_⟩:=cf gt.G hs hv
    obtain⟨r,hr',ek⟩:=List.mem_map.mp ((gt.G.rd _ vm k n).mpr (.inr ⟨(k - 1).toNat,b',hb',by omega,by rw[<- es];exact hD⟩))
    have tw:=gt.W.tw _ vm r hr'
    have T1:=au s12
    have hb2:=s12 _ _ hb
    rw[List.map_append] at hb2
    have hb2:H2 b=some (.tup (p'.map V.int++[.int k])):=hb2
    rw[List.length_append,List.length_singleton] at lp
    refine⟨_,rfl,_,rfl,_,rfl,_,rfl,_,rfl,b,_,rfl,hb2,fun b3 H3 s3 hb3=>?_⟩
    have ec:fI (p'.map V.int++[V.int k]) none (some (-1))=p'.map V.int:=by
     unfold fI
     have e1:HT.sIx (p'.map V.int++[V.int k]).length 0 none=0:=rfl
     have e2:HT.sIx (p'.map V.int++[V.int k]).length (p'.map V.int++[V.int k]).length (some (-1))=p'.length:=by
      rw[List.length_append,List.length_map,List.length_singleton]
      unfold HT.sIx
      first | (simp;omega) | (simp) | (rw[if_pos (by omega)];omega)
     rw[e1,e2]
     simp
    rw[ec] at hb3
    have s13:=s12.trans s3
    have T3:=au s13
    have hlast:atI (p'.map V.int++[V.int k]) (-1)=some (.int k):=by
     unfold atI ixN
     rw[if_neg (by decide),List.length_append,List.length_map,List.length_singleton,if_pos (by omega)]
     have e3:(-1+((p'.length+1:Nat):Int)).toNat=(p'.map V.int).length:=by rw[List.length_map];omega
     show (some (-1+((p'.length+1:Nat):Int)).toNat).bind _=_
     rw[e3]
     simp
    refine⟨_,rfl,_,rfl,b,_,_,.int k,rfl,rfl,SqT.of (s3 _ _ hb2),hlast,_,rfl,g,t,v,r,vg,vt,b3,p',k,n,rfl,GrIs.same T3 hg,gt,TrIs.same T3 t ht,hb3,hv,hr',ek,tn,fun x y H' s' hx hy=>?_⟩
    refine qy p' r x b3 _ y H' hin ?_ tw.1 tw.2 (by omega) (s13.trans s') hx (s' _ _ hb3) hy
    have e1:r.k=k:=congrArg Prod.fst ek
    have e2:r.nm=n:=congrArg Prod.snd ek
    rw[jU hat hv hU,<- mR (gt.G.rn _ vm) hr',e1,e2]
theorem jR (X:Tx K mg T):FnOk P w K mg base (CXe P w) 20 T.qAW T.d_qAW ["grammar", "tree", "spot"] (tE T.k_NoPlace):=by
 have G_qAN:=(oh (P:=P) (w:=w) (base:=base) X).mono (show 4 <= 19 by decide)
 have G_qAZ:=(jS (P:=P) (w:=w) (base:=base) X 12).mono (show 14 <= 19 by decide)
 have G_qAC:=(oi (P:=P) (w:=w) (base:=base) X).mono (show 1 <= 19 by decide)
 refine X.F_qAW.okE sc_qAW (fun vs H Q E h=>?_) (fun cdv A outer s H vs Q E hr h=>?_)
 ·obtain⟨_,_,_,_,_,_,rfl,_⟩:=h
  rfl
 obtain⟨g,t,vg,vt,v,sp,rfl,hg,gt,ht,hsp,tn,lp,qy,qn⟩:=h
 refine⟨_,(ag (am (i:=3) sc_qAW.nd rfl (Or.inr rfl) (aq G_qAN hr rfl X.m_qAN X.F_qAN.kp X.b_qAN .nil cb (qaN (qv 0) (qaN (qv 1) (qaN (qv 2) ae))))) (ag (bp (wu (qv 3)) (ai (ay (aV ae))) aL) (ai (ay (bH (ys:=["rule"]) (js:=[3]) rfl rfl (bB (aq G_qAZ hr rfl X.m_qAZ X.F_qAZ.kp X.b_qAZ .nil aW (qaS (ao ar (qv 3) af (fun _ _=>rfl)) ae))) (fun _ _ _ _ _=>bE) (fun _ _ _ _ _=>(aq G_qAC hr rfl X.m_qAC X.F_qAC.kp X.b_qAC .nil aW (qaS (ao (bF (K:=K) rfl) (qv 1) af (fun _ _=>rfl)) (qaN (qv 0) ae))))))))),?_⟩
 dsimp only[cm]
 refine⟨_,rfl,_,rfl,_,rfl,g,t,vg,vt,v,sp,rfl,hg,gt,ht,hsp,tn,lp,fun q r x b m y H1 hin hne hd hp lq s1 hx hb hy=>?_,fun hin hne H1 s1=>?_,qn⟩
 ·refine⟨_,rfl,_,rfl,cW (fun h=>nomatch h) (fun _=>?_)⟩
  refine⟨_,rfl,x,_,2,_,rfl,rfl,SqT.of hx,rfl,r.tm,y,rfl,hy,hd,hp,fun l ys H2 nl s2 hl hys=>⟨l,rfl,⟨_,SqL.of hl⟩,fun D nD=>?_⟩⟩
  have lys:=hys.len
  have nl2:=cM r.tm
  have hys':=gP hys
  refine iJ (K:=K) (R:=fun H (z:Pr) v=>SpIs H (bT q z) v) (as:=named r.tm) (OffD.ofT fun _ _ _ _ e h=>SpIs.same e h) (bM (by omega)) lys (SqL.of hl) nD (fun i z pr H3 hz hpr s3 _ Q' k=>?_) (fun zs H3 s3 hD3 hzs=>?_)
  ·obtain⟨pr',hpr',his⟩:=hys'.get hz
   rw[hpr] at hpr'
   cases hpr'
   have s23:=s2.trans s3
   exact⟨_,rfl,x,_,0,_,rfl,rfl,SqT.of (s23 _ _ hx),rfl,_,rfl,b,q,pr,z,rfl,s23 _ _ hb,IsP.same (au s3) his,lq,fun y' H4 s4 h4=>k _ _ s4 h4⟩
  ·refine qy hin D zs H3 (s1.trans (s2.trans s3)) ((s1.trans s2).free nD) hD3 ?_
   rw[hne]
   exact L2R.mapM (R:=SpIs H3) (bT q) hzs
 ·refine⟨_,rfl,_,rfl,cW (fun _=>?_) (fun h=>absurd rfl h)⟩
  refine⟨(by show 0 <= sizeLine;decide),fun D nD=>?_⟩
  refine qy hin D [] _ (s1.trans (ac nD _)) (s1.free nD) aa ?_
  rw[hne]
  exact .nil
end
end K41
namespace K41
open PySem L2 TR FT SP
open TM
inductive Al (H:Hp):Nat->V->V->Prop
 | str {n:Nat} (z:Str):Al H n (.str z) (.str z)
 | int {n:Nat} (i:Int):Al H n (.int i) (.int i)
 | tup {n:Nat} {a b:Addr} {xs ys:List V}:H a=some (.tup xs)->H b=some (.tup ys)->ys.length=xs.length->xs.length <= 1000->(∀ (i:Nat) (x y:V),xs[i]?=some x->ys[i]?=some y->Al H n x y)->Al H (n+1) (.ref a) (.ref b)
theorem Al.same {H H':Hp} (s:Same H H') {n:Nat} {v u:V} (h:Al H n v u):Al H' n v u:=by
 induction h with
 | str z=>exact .str z
 | int i=>exact .int i
 | tup ha hb e hl _ ih=>exact .tup (s _ _ ha) (s _ _ hb) e hl ih
theorem xk {H:Hp} {n:Nat} {a b:Addr} {x1 x2 y1 y2:V} (ha:H a=some (.tup [x1,y1])) (hb:H b=some (.tup [x2,y2])) (h1:Al H n x1 x2) (h2:Al H n y1 y2):Al H (n+1) (.ref a) (.ref b):=
 .tup ha hb rfl (by show 2 <= 1000;decide) fun i x y hx hy=>by
  match i with
  | 0=>cases hx;cases hy;exact h1
  | 1=>cases hx;cases hy;exact h2
  | i+2=>simp at hx
def vO (n:Nat):Sp:=fun vs H Q _=>∃ v1 v2,vs=[v1,v2]/\Al H n v1 v2/\∀ H',Same H H'->Q (.bl true) H'
def xL:Sp:=fun vs H Q _=>∃ i:Int,vs=[.int i]/\Q (.bl true) H
theorem ke:∀ (l:List (Array Nat)) (acc:Array Nat),(l.foldl (·++·) acc).toList=acc.toList++(l.map Array.toList).flatten
 | [],acc=>by simp
 | a::l,acc=>by rw[List.foldl_cons,ke l];simp
theorem uI (g:Nat) (n:Int):∀ c ∈ (Txt.mul ⟨#[g]⟩ n).cps.toList,c=g:=by
 intro c hc
 unfold Txt.mul at hc
 split at hc
 ·exact absurd hc (by simp[Str.empty])
 ·split at hc
  ·simpa using hc
  ·rw[show ((⟨(List.replicate n.toNat (#[g]:Array Nat)).foldl (·++·) #[]⟩ : Str)).cps.toList=_ from ke _ _] at hc
   simp only[List.map_replicate,List.nil_append,List.mem_flatten] at hc
   obtain⟨l,hl,h⟩:=hc
   have h1:0 < n/\l=[g]:=by simpa using hl
   rw[h1.2] at h
   simpa using h
abbrev letters26:Str:="abcdefghijklmnopqrstuvwxyz"
theorem wS:∀ c ∈ letters26.cps.toList,oz c=true:=by decide +kernel
theorem gH (g:Nat) {n:Int} (h0:0 <= n):((Txt.mul ⟨#[g]⟩ n).length:Int)=n:=by
 have e:=PyProof.Rows.len_mul ⟨#[g]⟩ n
 have e1:(Str.length ⟨#[g]⟩)=1:=rfl
 rw[e1,if_neg (by simpa using h0)] at e
 omega
theorem jY (g:Nat) {n:Int} (h0:0 <= n):(Txt.mul ⟨#[g]⟩ n).cps.toList=List.replicate n.toNat g:=by
 have l:=gH g h0
 rw[bo] at l
 refine List.eq_replicate_iff.mpr ⟨by omega,uI g n⟩
noncomputable def wAt (c:Int):Nat:=(c / 8 % (1+c % 8)).toNat
noncomputable def hZ (c:Int):Nat:=letters26.cps.toList.getD (c / 64 % 26).toNat 97
noncomputable def mH (c k:Int):Nat:=letters26.cps.toList.getD ((c / 1664+k) % 26).toNat 97
noncomputable def rH (c k:Int):List Nat:=List.replicate (wAt c) (hZ c)++mH c k::List.replicate ((1+c % 8).toNat - wAt c - 1) (hZ c)
noncomputable def wrd (c k:Int):Str:=mkS (rH c k)
theorem uJ:letters26.cps.toList.length=26:=by decide +kernel
theorem iS (c:Int):atI letters26.cps.toList (c % 26)=some (letters26.cps.toList.getD (c % 26).toNat 97)/\oz (letters26.cps.toList.getD (c % 26).toNat 97)=true:=by
 have h0:=Int.emod_nonneg c (show (26:Int) ≠ 0 by decide)
 have h1:=Int.emod_lt_of_pos c (show (0:Int) < 26 by decide)
 generalize c % 26=m at h0 h1
 obtain⟨k,rfl⟩:=Int.eq_ofNat_of_zero_le h0
 have hl:=uJ
 have hk:k < letters26.cps.toList.length:=by omega
 have e:letters26.cps.toList.getD (Int.toNat (k:Int)) 97=letters26.cps.toList[k]:=by
  rw[List.getD_eq_getElem?_getD,show Int.toNat (k:Int)=k from rfl,List.getElem?_eq_getElem hk]
  rfl
 rw[e]
 exact⟨bt (List.getElem?_eq_getElem hk),wS _ (List.getElem_mem _)⟩
theorem dE (c k:Int):pK (wrd c k):=by
 have c0:=Int.emod_nonneg c (show (8:Int) ≠ 0 by decide)
 have c1:=Int.emod_lt_of_pos c (show (0:Int) < 8 by decide)
 have a0:=Int.emod_nonneg (c / 8) (show (1+c % 8:Int) ≠ 0 by omega)
 have a1:=Int.emod_lt_of_pos (c / 8) (show (0:Int) < 1+c % 8 by omega)
 unfold wrd pK
 rw[jj]
 refine⟨by unfold rH;simp,?_,fun x hx=>?_⟩
 ·unfold rH wAt
  rw[List.length_append,List.length_cons,List.length_replicate,List.length_replicate]
  omega
 ·unfold rH at hx
  rcases List.mem_append.mp hx with h | h
  ·rw[List.eq_of_mem_replicate h];exact (iS (c / 64)).2
  ·rcases List.mem_cons.mp h with rfl | h
   ·exact (iS (c / 1664+k)).2
   ·rw[List.eq_of_mem_replicate h];exact (iS (c / 64)).2
theorem uK:∀ i < 26,∀ j < 26,letters26.cps.toList.getD i 97=letters26.cps.toList.getD j 97->i=j:=by decide +kernel
theorem eo {c k j:Int} (h0:0 <= k) (h1:k < 26) (g0:0 <= j) (g1:j < 26) (e:wrd c k=wrd c j):k=j:=by
 have e:rH c k=rH c j:=by
  have:=congrArg (fun s:Str=>s.cps.toList) e
  unfold wrd at this
  simpa [jj] using this
 unfold rH at e
 have e2:=(List.cons.inj (List.append_cancel_left e)).1
 unfold mH at e2
 have k0:=Int.emod_nonneg (c / 1664+k) (show (26:Int) ≠ 0 by decide)
 have k1:=Int.emod_lt_of_pos (c / 1664+k) (show (0:Int) < 26 by decide)
 have j0:=Int.emod_nonneg (c / 1664+j) (show (26:Int) ≠ 0 by decide)
 have j1:=Int.emod_lt_of_pos (c / 1664+j) (show (0:Int) < 26 by decide)
 have:=uK _ (by omega) _ (by omega) e2
 omega
theorem rG (c k:Int):iU (wrd c k):=by
 obtain⟨_,h2,h3⟩:=dE c k
 refine⟨by rw[bo];omega,fun x hx=>?_⟩
 have:=h3 x hx
 unfold oz at this
 rw[Bool.and_eq_true,decide_eq_true_eq,decide_eq_true_eq] at this
 omega
def vK:Sp:=fun vs H Q _=>∃ c k:Int,vs=[.int c,.int k]/\Q (.str (wrd c k)) H
def vU (K:W.Frag):Sp:=fun vs H Q _=>∃ (a:Addr) (ns:List Int),vs=[.ref a,.int 140]/\SqL K H a (ns.map V.int)/\ns.length <= 63 /\
 ∀ (D:Addr) (cs:List Int) (H':Hp),Same H H'->H D=none->H' D=some (.lst (cs.map V.int))->cs.length=140->(∀ c ∈ cs,0 <= c/\c < 1000000000000000000)->Q (.ref D) H'
section
variable {P:Program} {w:World} {K:W.Frag} {mg:Str->Option Value} {base:Heap} {T:Adr}
theorem gF (X:Tx K mg T):FnOk P w K mg base CX0 1 T.qBK T.d_qBK ["_law_cell", "_law_k"] vK:=by
 refine X.F_qBK.okQ sc_qBK (fun vs H Q E h=>?_) (fun cdv A outer s H vs Q E hr h=>?_)
 ·obtain⟨_,_,rfl,_⟩:=h
  rfl
 obtain⟨c,k,rfl,q⟩:=h
 refine⟨_,(ag (am (i:=2) sc_qBK.nd rfl (Or.inl rfl) aw) (ag (am (i:=3) sc_qBK.nd rfl (Or.inl rfl) (aj bw af (aj aM (qv 0) af))) (ag (am (i:=4) sc_qBK.nd rfl (Or.inl rfl) (aj aM (aj aO (qv 0) af) (qv 3))) (ag (am (i:=5) sc_qBK.nd rfl (Or.inl rfl) (ao rX (qv 2) (aj aM (aj aO (qv 0) af) af) (fun _ _=>rfl))) (ai (ay (aj eD (aj eD (aj fV (qv 5) (qv 4)) (ao rX (qv 2) (aj aM (aj bw (aj aO (qv 0) af) (qv 1)) af) (fun _ _=>rfl))) (aj fV (qv 5) (aj cx (aj cx (qv 3) (qv 4)) af))))))))),?_⟩
 have c0:=Int.emod_nonneg c (show (8:Int) ≠ 0 by decide)
 have c1:=Int.emod_lt_of_pos c (show (0:Int) < 8 by decide)
 have hpos:(0:Int) < 1+c % 8:=by omega
 have a0:=Int.emod_nonneg (c / 8) (show (1+c % 8:Int) ≠ 0 by omega)
 have a1:=Int.emod_lt_of_pos (c / 8) hpos
 have hg:=(iS (c / 64)).1
 have hg2:=(iS (c / 1664+k)).1
 refine⟨_,rfl,_,_,rfl,rfl,(by show (0:Int) < 8;decide),_,_,rfl,rfl,?_⟩
 refine⟨_,rfl,_,_,rfl,rfl,⟨by decide,by decide⟩,_,rfl,_,_,rfl,rfl,hpos,?_⟩
 refine⟨_,rfl,_,rfl,_,_,rfl,rfl,⟨by decide,by decide⟩,_,_,rfl,rfl,(by show (0:Int) < 26;decide),letters26,_,hZ c,rfl,rfl,(by decide +kernel),hg,?_⟩
 have l1:=gH (hZ c) (n:=c / 8 % (1+c % 8)) (by omega)
 have l2:=gH (hZ c) (n:=1+c % 8 - c / 8 % (1+c % 8) - 1) (by omega)
 have e1:(Str.length ⟨#[hZ c]⟩)=1:=rfl
 have e2:(Str.length ⟨#[mH c k]⟩)=1:=rfl
 refine⟨_,rfl,_,rfl,_,_,rfl,rfl,(by rw[e1];decide),by omega,by omega,_,rfl,_,rfl,_,_,rfl,rfl,⟨by decide,by decide⟩,_,rfl,_,_,rfl,rfl,_,_,rfl,rfl,(by show (0:Int) < 26;decide),letters26,_,mH c k,rfl,rfl,(by decide +kernel),hg2,_,_,rfl,rfl,bP (by omega),?_⟩
 refine⟨_,rfl,_,rfl,_,rfl,_,_,rfl,rfl,_,_,rfl,rfl,_,_,rfl,rfl,(by rw[e1];decide),by omega,by omega,_,_,rfl,rfl,bP (by rw[bD];omega),?_⟩
 have ez:Txt.mul ⟨#[hZ c]⟩ (c / 8 % (1+c % 8))++(⟨#[mH c k]⟩ : Str)++Txt.mul ⟨#[hZ c]⟩ (1+c % 8 - c / 8 % (1+c % 8) - 1)=wrd c k:=by
  refine sY ?_
  unfold wrd rH wAt
  rw[jj,eP,eP,jY _ (by omega),jY _ (by omega)]
  have e:(1+c % 8 - c / 8 % (1+c % 8) - 1).toNat=(1+c % 8).toNat - (c / 8 % (1+c % 8)).toNat - 1:=by omega
  rw[e]
  simp
 rw[ez]
 exact q
theorem iu (X:Tx K mg T):FnOk P w K mg base CX0 1 T.qAY T.d_qAY ["_law_found"] xL:=by
 refine X.F_qAY.okQ wb (fun vs H Q E h=>?_) (fun cdv A outer s H vs Q E hr h=>?_)
 ·obtain⟨_,rfl,_⟩:=h
  rfl
 obtain⟨i,rfl,q⟩:=h
 refine⟨_,(ai (ay (im (ax aZ rfl X.z_isinstance PyProof.Rows.boot_isinstance (qaN (qv 0) (qaN (bZ rfl X.z_int PyProof.Rows.boot_int rfl (v:=.ty "int")) ae))) (il (wz (ax aZ rfl X.z_isinstance PyProof.Rows.boot_isinstance (qaN (qv 0) (qaN (bZ rfl X.z_bool PyProof.Rows.boot_bool rfl (v:=.ty "bool")) ae)))))))),?_⟩
 dsimp only[cm]
 exact⟨_,rfl,_, "int",_,_,rfl,.int i,yR,_,rfl,mf ⟨_,rfl,_, "bool",_,_,rfl,.int i,yS,_,rfl,q⟩⟩
theorem uk (X:Tx K mg T):∀ n:Nat,FnOk P w K mg base CX0 (n+2) T.qBF T.d_qBF ["_law_found", "_law_due"] (vO n):=by
 intro n
 induction n with
 | zero=>
  have G_qAY:=iu (P:=P) (w:=w) (base:=base) X
  have G_qBF:FnOk P w K mg base CX0 0 T.qBF T.d_qBF ["_law_found", "_law_due"] (fun _ _ _ _=>False):=⟨fun _ _ _ _ h=>h.elim,fun _ _ _ _ _ _ _ _ _ _ _ _ _ h=>h.elim⟩
  have G_qBF:=G_qBF.mono (show 0 <= 1 by decide)
  refine X.F_qBF.okQ sc_qBF (fun vs H Q E h=>?_) (fun cdv A outer s H vs Q E hr h=>?_)
  ·obtain⟨_,_,rfl,_⟩:=h
   rfl
  obtain⟨v1,v2,rfl,al,q⟩:=h
  refine⟨_,(ag (bp (ci (ax aZ rfl X.z_isinstance PyProof.Rows.boot_isinstance (qaN (qv 1) (qaN (bZ rfl X.z_str PyProof.Rows.boot_str rfl (v:=.ty "str")) ae)))) (ai (ay (im (ax aZ rfl X.z_isinstance PyProof.Rows.boot_isinstance (qaN (qv 0) (qaN (bZ rfl X.z_str PyProof.Rows.boot_str rfl (v:=.ty "str")) ae))) (il (cS bL (qv 0) (qv 1) (aP _)))))) aL) (ag (bp (cv (ci (ax aZ rfl X.z_isinstance PyProof.Rows.boot_isinstance (qaN (qv 1) (qaN (bZ rfl X.z_tuple PyProof.Rows.boot_tuple rfl (v:=.ty "tuple")) ae))))) (ai (ay (im (aq G_qAY hr rfl X.m_qAY X.F_qAY.kp X.b_qAY .nil aW (qaN (qv 0) ae)) (il (cS bL (qv 0) (qv 1) (aP _)))))) aL) (ag (bp (lQ (tT (cv (ci (ax aZ rfl X.z_isinstance PyProof.Rows.boot_isinstance (qaN (qv 0) (qaN (bZ rfl X.z_tuple PyProof.Rows.boot_tuple rfl (v:=.ty "tuple")) ae))))) (nG (aK qx (ax (call_len_seq.or bO) rfl X.z_len PySem.boot_len (qaN (qv 0) ae)) (ax (call_len_seq.or bO) rfl X.z_len PySem.boot_len (qaN (qv 1) ae)) (aP _))))) (ai (ay cT)) aL) (ag (bq PassesOwn.never rfl (nK rfl X.z_zip (qaN (qv 0) (qaN (qv 1) ae))) (dF rfl (aQ (az (i:=2) sc_qBF.nd rfl (Or.inl rfl)) (aQ (az (i:=3) sc_qBF.nd rfl (Or.inl rfl)) bY))) (ai (bp (cv (ci (aq G_qBF hr rfl X.m_qBF X.F_qBF.kp X.b_qBF .nil aW (qaN (qv 2) (qaN (qv 3) ae))))) (ai (ay cT)) aL))) (ai (ay cT)))))),?_⟩
  dsimp only[cm]
  have qs:=q H (Same.refl H)
  cases al with
  | str z=>exact⟨_,rfl,_, "str",_,_,rfl,.str z,xr,_,rfl,mf ⟨_,rfl,_, "str",_,_,rfl,.str z,xr,_,rfl,mf ⟨_,rfl,_,rfl,rfl,by rw[decide_eq_true rfl];exact qs⟩⟩⟩
  | int i=>exact⟨_,rfl,_, "str",_,_,rfl,.int i,wX,_,rfl,hW ⟨_,rfl,_, "tuple",_,_,rfl,.int i,yy,_,rfl,mf ⟨_,rfl,i,rfl,_,rfl,mf ⟨_,rfl,_,rfl,rfl,by rw[decide_eq_true rfl];exact qs⟩⟩⟩⟩
 | succ n ih=>
  have G_qAY:=(iu (P:=P) (w:=w) (base:=base) X).mono (show 1 <= n+2 by omega)
  have G_qBF:=ih
  refine X.F_qBF.okQ sc_qBF (fun vs H Q E h=>?_) (fun cdv A outer s H vs Q E hr h=>?_)
  ·obtain⟨_,_,rfl,_⟩:=h
   rfl
  obtain⟨v1,v2,rfl,al,q⟩:=h
  refine⟨_,(ag (bp (ci (ax aZ rfl X.z_isinstance PyProof.Rows.boot_isinstance (qaN (qv 1) (qaN (bZ rfl X.z_str PyProof.Rows.boot_str rfl (v:=.ty "str")) ae)))) (ai (ay (im (ax aZ rfl X.z_isinstance PyProof.Rows.boot_isinstance (qaN (qv 0) (qaN (bZ rfl X.z_str PyProof.Rows.boot_str rfl (v:=.ty "str")) ae))) (il (cS bL (qv 0) (qv 1) (aP _)))))) aL) (ag (bp (cv (ci (ax aZ rfl X.z_isinstance PyProof.Rows.boot_isinstance (qaN (qv 1) (qaN (bZ rfl X.z_tuple PyProof.Rows.boot_tuple rfl (v:=.ty "tuple")) ae))))) (ai (ay (im (aq G_qAY hr rfl X.m_qAY X.F_qAY.kp X.b_qAY .nil aW (qaN (qv 0) ae)) (il (cS bL (qv 0) (qv 1) (aP _)))))) aL) (ag (bp (lQ (tT (cv (ci (ax aZ rfl X.z_isinstance PyProof.Rows.boot_isinstance (qaN (qv 0) (qaN (bZ rfl X.z_tuple PyProof.Rows.boot_tuple rfl (v:=.ty "tuple")) ae))))) (nG (aK qx (ax (call_len_seq.or bO) rfl X.z_len PySem.boot_len (qaN (qv 0) ae)) (ax (call_len_seq.or bO) rfl X.z_len PySem.boot_len (qaN (qv 1) ae)) (aP _))))) (ai (ay cT)) aL) (ag (bq PassesOwn.never rfl (nK rfl X.z_zip (qaN (qv 0) (qaN (qv 1) ae))) (dF rfl (aQ (az (i:=2) sc_qBF.nd rfl (Or.inl rfl)) (aQ (az (i:=3) sc_qBF.nd rfl (Or.inl rfl)) bY))) (ai (bp (cv (ci (aq G_qBF hr rfl X.m_qBF X.F_qBF.kp X.b_qBF .nil aW (qaN (qv 2) (qaN (qv 3) ae))))) (ai (ay cT)) aL))) (ai (ay cT)))))),?_⟩
  dsimp only[cm]
  have qs:=q H (Same.refl H)
  cases al with
  | str z=>exact⟨_,rfl,_, "str",_,_,rfl,.str z,xr,_,rfl,mf ⟨_,rfl,_, "str",_,_,rfl,.str z,xr,_,rfl,mf ⟨_,rfl,_,rfl,rfl,by rw[decide_eq_true rfl];exact qs⟩⟩⟩
  | int i=>exact⟨_,rfl,_, "str",_,_,rfl,.int i,wX,_,rfl,hW ⟨_,rfl,_, "tuple",_,_,rfl,.int i,yy,_,rfl,mf ⟨_,rfl,i,rfl,_,rfl,mf ⟨_,rfl,_,rfl,rfl,by rw[decide_eq_true rfl];exact qs⟩⟩⟩⟩
  | @tup _ a b xs ys ha hb e hl hi=>
   refine⟨_,rfl,_, "str",_,_,rfl,.tup hb,yP,_,rfl,hW ⟨_,rfl,_, "tuple",_,_,rfl,.tup hb,yx,_,rfl,hW ⟨_,rfl,_, "tuple",_,_,rfl,.tup ha,yx,_,rfl,hW ?_⟩⟩⟩
   refine⟨_,rfl,.inl ⟨a,xs,rfl,.inr (SqT.of ha),_,rfl,.inl ⟨b,ys,rfl,.inr (SqT.of hb),rfl,_,rfl,wY (by rw[e]) ?_⟩⟩⟩
   refine⟨_,rfl,_,rfl,a,b,xs,ys,rfl,SqT.of ha,SqT.of hb,e,sf (fun i σ H'=>(∃ x2 x3,σ=[some (.ref a),some (.ref b),x2,x3])/\Same H H') ⟨⟨none,none,rfl⟩,Same.refl _⟩ (fun i σ H' _ ⟨_,sm⟩=>⟨SqT.of (sm _ _ ha),SqT.of (sm _ _ hb)⟩) ?_ ?_⟩
   ·rintro i T' vs' σ H' hlt ⟨x,y,hx,hy,rfl⟩ ⟨⟨x2,x3,rfl⟩,sm⟩ hT
    have s1:=ac hT (.tup [x,y])
    refine⟨T',_,rfl,SqT.of aa,rfl,_,_,rfl,_,_,rfl,rfl,?_⟩
    exact⟨_,rfl,_,rfl,x,y,rfl,((hi i x y hx hy).same sm).same s1,fun H2 s2=>⟨_,rfl,hW ⟨⟨_,_,rfl⟩,(sm.trans s1).trans s2⟩⟩⟩
   ·rintro σ H' ⟨⟨x2,x3,rfl⟩,sm⟩
    exact q H' sm
theorem uv (X:Tx K mg T):FnOk P w K mg base CX0 1 T.qBE T.d_qBE ["_law_script", "_law_many_here"] (vU K):=by
 refine X.F_qBE.okQ sc_qBE (fun vs H Q E h=>?_) (fun cdv A outer s H vs Q E hr h=>?_)
 ·obtain⟨_,_,rfl,_⟩:=h
  rfl
 obtain⟨a,ns,rfl,hS,h63,q⟩:=h
 refine⟨_,(ag (dL (ys:=[]) (js:=[]) rfl rfl (bB (bc cI (qv 0) bA (bz (qv 1)))) (fun _ _ _ _ _=>bE) (fun _ _ _ _ _=>(aj aM (qv 0) (aj iq af af))) (az (i:=2) sc_qBE.nd rfl (Or.inl rfl)) rfl) (ag (am (i:=3) sc_qBE.nd rfl (Or.inl rfl) (aj bw af (ax call_len_seq rfl X.z_len PySem.boot_len (qaN (qv 2) ae)))) (ag (bq PassesOwn.never rfl (bB (qv 2)) (az (i:=4) sc_qBE.nd rfl (Or.inl rfl)) (ai (am (i:=3) sc_qBE.nd rfl (Or.inl rfl) (aj aM (aj bw (aj df (qv 3) af) (qv 4)) af)))) (ag (jL PassesOwn.never (aK qz (ax call_len_seq rfl X.z_len PySem.boot_len (qaN (qv 2) ae)) (qv 1) (aP _)) (ag (am (i:=3) sc_qBE.nd rfl (Or.inl rfl) (aj aM (aj bw (aj df (qv 3) af) af) af)) (ai (bU (eB PySem.F.plainAttrs_list PySem.F.slot_list_append PySem.F.type_list_append bg (qv 2) (qaN (qv 3) ae)))))) (ai (ay (lT rfl rfl X.z_list rfl X.z_reversed (qv 2)))))))),?_⟩
 dsimp only[cm]
 refine⟨_,rfl,_,rfl,_,rfl,a,_,rfl,hS,fun sl hsl=>?_⟩
 have ecs:fI (ns.map V.int) none (some 140)=(ns.take 140).map V.int:=by
  rw[show (some 140:Option Int)=some ((140:Nat):Int) from rfl,bS,List.map_take]
 rw[ecs]
 generalize hns:ns.take 140=ms
 have lms:ms.length <= 140:=by rw[<- hns,List.length_take];omega
 clear hns
 have s0:=ac hsl (.lst (ms.map V.int))
 refine⟨sl,rfl,⟨_,SqL.of aa⟩,fun D hD=>?_⟩
 refine pF (K:=K) (ys:=(ms.map fun n=>n % 10 ^ Int.toNat 18).map V.int) (bM (by rw[List.length_map];omega)) (by simp) (SqL.of aa) hD (fun i x y H2 hx hy s2 Q' k=>?_) fun H1 s1 hD1=>?_
 ·rw[List.getElem?_map] at hx
  rw[List.getElem?_map,List.getElem?_map] at hy
  cases e:ms[i]? with
  | none=>rw[e] at hx;cases hx
  | some n=>
   rw[e] at hx hy
   cases hx
   cases hy
   exact⟨_,rfl,_,_,rfl,rfl,⟨by decide,by decide,by decide⟩,_,_,rfl,rfl,(by show (0:Int) < 10 ^ Int.toNat 18;decide),k H2 (Same.refl H2)⟩
 have hD0:H D=none:=s0.free hD
 have hcs:∀ c ∈ (ms.map fun n=>n % 10 ^ Int.toNat 18),0 <= c/\c < 1000000000000000000:=fun c hc=>by
  obtain⟨n,_,rfl⟩:=List.mem_map.mp hc
  exact⟨Int.emod_nonneg _ (by decide),Int.emod_lt_of_pos _ (by decide)⟩
 have lcs:(ms.map fun n=>n % 10 ^ Int.toNat 18).length <= 140:=by rw[List.length_map];exact lms
 generalize (ms.map fun n=>n % 10 ^ Int.toNat 18)=cs at hD1 hcs lcs
 refine⟨_,rfl,D,_,rfl,.inl (SqL.of hD1),_,_,rfl,rfl,?_⟩
 refine⟨_,rfl,D,rfl,⟨_,SqL.of hD1⟩,?_⟩
 refine cq (K:=K) (a:=D) (xs:=cs.map V.int) (fun i σ H'=>(∃ sd x4,σ=[some (.ref a),some (.int 140),some (.ref D),some (.int sd),x4])/\H'=H1) ⟨⟨_,_,rfl⟩,rfl⟩ (fun i σ H' _ ⟨_,e⟩=>by rw[e];exact SqL.of hD1) ?_ ?_
 ·rintro i y σ H' hy ⟨⟨sd,x4,rfl⟩,rfl⟩
  rw[List.getElem?_map] at hy
  cases e:cs[i]? with
  | none=>rw[e] at hy;cases hy
  | some n=>
   rw[e] at hy
   cases hy
   exact⟨_,rfl,_,_,rfl,rfl,.inr ⟨by decide,by decide⟩,_,rfl,_,_,rfl,rfl,_,_,rfl,rfl,(by show (0:Int) < 999999937;decide),⟨_,_,rfl⟩,rfl⟩
 ·rintro σ H' ⟨⟨sd,x4,rfl⟩,rfl⟩
  refine⟨fun m σ H'=>∃ (sd:Int) (x4:Option V) (cs:List Int),m=140 - cs.length/\σ=[some (.ref a),some (.int 140),some (.ref D),some (.int sd),x4]/\Same H H'/\H' D=some (.lst (cs.map V.int))/\cs.length <= 140/\∀ c ∈ cs,0 <= c/\c < 1000000000000000000,⟨_,sd,x4,cs,rfl,rfl,s0.trans s1,hD1,lcs,hcs⟩,?_⟩
  rintro m σ H2 ⟨sd,x4,cs,rfl,rfl,sm,hd,lc,hc⟩
  refine⟨_,rfl,D,_,rfl,.inl (SqL.of hd),_,rfl,_,_,rfl,rfl,_,rfl,cW (fun hlt=>⟨_,fun σ' H'' h=>h,?_⟩) (fun hge=>?_)⟩
  ·rw[List.length_map] at hlt
   refine⟨_,rfl,_,_,rfl,rfl,.inr ⟨by decide,by decide⟩,_,_,rfl,rfl,_,_,rfl,rfl,(by show (0:Int) < 2147483647;decide),?_⟩
   have b0:=Int.emod_nonneg (sd * 48271+11) (show (2147483647:Int) ≠ 0 by decide)
   have b1:=Int.emod_lt_of_pos (sd * 48271+11) (show (0:Int) < 2147483647 by decide)
   refine⟨_,rfl,.inl ⟨rfl,_,SqL.of hd⟩,_,rfl,D,_,_,rfl,rfl,hd,bM (by rw[List.length_map];omega),?_⟩
   refine⟨140 - (cs++[(sd * 48271+11) % 2147483647]).length,by rw[List.length_append,List.length_singleton];omega,_,_,cs++[(sd * 48271+11) % 2147483647],rfl,rfl,aN hD0 sm,by rw[aa,List.map_append];rfl,by rw[List.length_append,List.length_singleton];omega,fun c hm=>?_⟩
   rcases List.mem_append.mp hm with h | h
   ·exact hc c h
   ·rw[List.mem_singleton.mp h]
    exact⟨b0,by omega⟩
  ·rw[List.length_map] at hge
   refine⟨_,rfl,D,_,rfl,SqL.of hd,fun r hr=>?_⟩
   refine q r cs.reverse _ (sm.trans (ac hr _)) (sm.free hr) (by rw[aa,List.map_reverse]) (by rw[List.length_reverse];omega) fun c hm=>hc c (List.mem_reverse.mp hm)
end
noncomputable def bi (c:Int):List Str:=(List.range 26).map fun (k:Nat)=>wrd c (k:Int)
theorem pP (c:Int):(bi c).Nodup:=by
 unfold bi
 refine List.pairwise_map.mpr (List.pairwise_iff_getElem.mpr fun i j hi hj hlt he=>?_)
 rw[List.length_range] at hi hj
 rw[List.getElem_range,List.getElem_range] at he
 have:=eo (by omega) (by omega) (by omega) (by omega) he
 omega
theorem jt {z:Str} {used:List Str}:inV (.str z) (used.map V.str)=decide (z ∈ used):=by
 unfold inV
 rw[List.any_map]
 by_cases h:z ∈ used
 ·rw[decide_eq_true h,List.any_eq_true]
  exact⟨_,h,by show (z == z)=true;simp⟩
 ·rw[decide_eq_false h,List.any_eq_false]
  intro x hx
  show ¬ (x == z)=true
  intro q
  have q:x=z:=by simpa using q
  rw[q] at hx
  exact h hx
theorem fi (used:List Str):(used.map V.str).all fj=true:=by rw[List.all_map,List.all_eq_true];intro x _;rfl
theorem mh {x:Str} {k:Int} (j:Nat) (e:k=(j:Int)) (h:j <= x.cps.toList.length):(Txt.slice x (some k) none).cps.toList=x.cps.toList.drop j:=by
 subst e
 have:=PySem.StrLaws.sliceText_from (x:=x) (i:=(j:Int)) ⟨by omega,by omega⟩
 have e:Txt.slice x (some (j:Int)) none=PySem.StrLaws.sliceText x (some (j:Int)) none:=rfl
 rw[e,this]
 simp
 rw[List.take_of_length_le (by simp)]
theorem sW {x:Str} {j:Nat} (h:j <= x.cps.toList.length):(Txt.slice x none (some (j:Int))).cps.toList=x.cps.toList.take j:=by
 have:=PySem.StrLaws.sliceText_to (x:=x) (j:=(j:Int)) ⟨by omega,by omega⟩
 have e:Txt.slice x none (some (j:Int))=PySem.StrLaws.sliceText x none (some (j:Int)):=rfl
 rw[e,this]
 simp
theorem oQ {x:Str} (h:1 <= x.length):(Txt.slice x none (some (-1))).cps.toList=x.cps.toList.take (x.length - 1):=by
 have e:Txt.slice x none (some (-1))=PySem.StrLaws.sliceText x none (some (-1)):=rfl
 rw[e,PySem.StrLaws.sliceText_neg_hi x none (by decide) (by omega)]
 have e2:(-1:Int)+(x.length:Int)=((x.length - 1:Nat):Int):=by omega
 rw[e2]
 exact sW (by rw[<- bo];omega)
def Nm8 (z:Str):Prop:=z.length <= 9/\∀ c ∈ z.cps.toList,c < 128
theorem Nm8.tx {z:Str} (h:Nm8 z):iU z:=⟨by have:=h.1;omega,h.2⟩
theorem yF (c k:Int):Nm8 (wrd c k):=⟨by rw[bo];have:=(dE c k).2.1;omega,(rG c k).2⟩
theorem sO (c k:Int):0 < (wrd c k).length/\(wrd c k).length < 9:=by
 obtain⟨h1,h2,_⟩:=dE c k
 rw[bo]
 exact⟨List.length_pos_iff.mpr h1,by omega⟩
def tK:Sp:=fun vs H Q _=>∃ (u:Addr) (used:List Str) (near:Str) (c:Int),vs=[.ref u,.str near,.int c]/\H u=some (.lst (used.map V.str))/\used.length <= 25/\1 <= near.length/\near.length <= 8/\(∀ c ∈ near.cps.toList,c < 128)/\∀ (z:Str) (H':Hp),Same H H'->z ∉ used->Nm8 z->Q (.str z) H'
section
variable {P:Program} {w:World} {K:W.Frag} {mg:Str->Option Value} {base:Heap} {T:Adr}
theorem qL (X:Tx K mg T):FnOk P w K mg base CX0 2 T.qAT T.d_qAT ["_law_used", "_law_near", "_law_cell"] tK:=by
 have G_qBK:=gF (P:=P) (w:=w) (base:=base) X
 refine X.F_qAT.okQ sc_qAT (fun vs H Q E h=>?_) (fun cdv A outer s H vs Q E hr h=>?_)
 ·obtain⟨_,_,_,_,rfl,_⟩:=h
  rfl
 obtain⟨u,used,near,c,rfl,hu,l25,n1,n8,asc,q⟩:=h
 refine⟨_,(ag (am (i:=3) sc_qAT.nd rfl (Or.inl rfl) (aV (qaS (bc rP (qv 1) bA (bz (qf jI af))) (qaB (aj eD (qv 1) aw) (qaS (bc rP (qv 1) (bz af) bA) ae))))) (ag (am (i:=3) sc_qAT.nd rfl (Or.inl rfl) (aj dY (bc cI (qv 3) (bz (aj aM (qv 2) af)) bA) (bc cI (qv 3) bA (bz (aj aM (qv 2) af))))) (ag (bq PassesOwn.never rfl (bB (aj dY (qv 3) (bH (ys:=["_law_cell"]) (js:=[2]) rfl rfl (aX rfl X.z_range (qaC af ae)) (fun _ _ _ _ _=>bE) (fun _ _ _ _ _=>(aq G_qBK hr rfl X.m_qBK X.F_qBK.kp X.b_qBK .nil aW (qaN (qv 1) (qaN (qv 0) ae))))))) (az (i:=4) sc_qAT.nd rfl (Or.inl rfl)) (ai (bp (lQ (jK (aK dc (qv 4) (qv 0) rfl) (jK (aK qz af (ax bO rfl X.z_len PySem.boot_len (qaN (qv 4) ae)) (aP _)) (ja (aK qz (ax bO rfl X.z_len PySem.boot_len (qaN (qv 4) ae)) af (aP _)))))) (ai (ay (qv 4))) aL))) (ai (ay aw))))),?_⟩
 dsimp only[cm]
 have ea:(Str.ofString "a").length=1:=by decide
 have la:("a" : Str).cps.toList=[97]:=by decide
 refine⟨_,rfl,_,rfl,_,rfl,near,rfl,bP (by omega),_,rfl,_,_,rfl,rfl,bP (by omega),_,rfl,_,rfl,near,rfl,bP (by omega),(by show 3 <= sizeLine;decide),fun a1 h1=>?_⟩
 have g1:Nm8 (Txt.slice near none (some (-1))):=by
  have e:=oQ n1
  refine⟨by rw[bo,e,List.length_take,<- bo];omega,fun x hx=>?_⟩
  rw[e] at hx
  exact asc x (List.mem_of_mem_take hx)
 have g2:Nm8 (near++"a"):=by
  refine⟨by rw[bD];show near.length+(Str.ofString "a").length <= 9;omega,fun x hx=>?_⟩
  rw[eP,la] at hx
  rcases List.mem_append.mp hx with h | h
  ·exact asc x h
  ·rw[List.mem_singleton.mp h];decide
 have g3:Nm8 (Txt.slice near (some 1) none):=by
  have e:=mh (x:=near) (k:=1) 1 rfl (by rw[<- bo];omega)
  refine⟨by rw[bo,e,List.length_drop,<- bo];omega,fun x hx=>?_⟩
  rw[e] at hx
  exact asc x (List.mem_of_mem_drop hx)
 have sH:=ac h1 (.lst [.str (Txt.slice near none (some (-1))),.str (near++"a"),.str (Txt.slice near (some 1) none)])
 have hl1:upd H a1 (.lst [.str (Txt.slice near none (some (-1))),.str (near++"a"),.str (Txt.slice near (some 1) none)]) a1=some (.lst ([Txt.slice near none (some (-1)),near++"a",Txt.slice near (some 1) none].map V.str)):=aa
 have gw:∀ z ∈ [Txt.slice near none (some (-1)),near++"a",Txt.slice near (some 1) none],Nm8 z:=by
  intro z hz
  simp only[List.mem_cons,List.mem_nil_iff,or_false] at hz
  rcases hz with rfl | rfl | rfl
  ·exact g1
  ·exact g2
  ·exact g3
 have l3:[Txt.slice near none (some (-1)),near++"a",Txt.slice near (some 1) none].length=3:=rfl
 generalize [Txt.slice near none (some (-1)),near++"a",Txt.slice near (some 1) none]=ws at hl1 gw l3
 generalize upd H a1 (.lst [.str (Txt.slice near none (some (-1))),.str (near++"a"),.str (Txt.slice near (some 1) none)])=H1 at sH hl1 ⊢
 have m0:=Int.emod_nonneg c (show (3:Int) ≠ 0 by decide)
 have m1:=Int.emod_lt_of_pos c (show (0:Int) < 3 by decide)
 obtain⟨m,hm⟩:=Int.eq_ofNat_of_zero_le m0
 refine⟨_,rfl,_,rfl,_,_,rfl,rfl,(by show (0:Int) < 3;decide),_,rfl,a1,_,rfl,SqL.of hl1,fun b1 hb1=>?_⟩
 rw[hm,cR,<- List.map_drop]
 have s1:=ac hb1 (.lst ((ws.drop m).map V.str))
 refine⟨_,rfl,_,rfl,_,_,rfl,rfl,(by show (0:Int) < 3;decide),_,rfl,a1,_,rfl,SqL.of (s1 _ _ hl1),fun b2 hb2=>?_⟩
 rw[hm,bS,<- List.map_take]
 have s2:=ac hb2 (.lst ((ws.take m).map V.str))
 refine⟨b1,b2,_,_,rfl,rfl,s2 _ _ aa,aa,bP (by rw[List.length_map,List.length_map,List.length_drop,List.length_take];omega),fun b3 hb3=>?_⟩
 have s3:=ac hb3 (.lst ((ws.drop m).map V.str++(ws.take m).map V.str))
 have s13:=s1.trans (s2.trans s3)
 have hb3':upd (upd (upd H1 b1 (.lst ((ws.drop m).map V.str))) b2 (.lst ((ws.take m).map V.str))) b3 (.lst ((ws.drop m).map V.str++(ws.take m).map V.str)) b3=some (.lst ((ws.drop m++ws.take m).map V.str)):=by rw[aa,List.map_append]
 have gw':∀ z ∈ ws.drop m++ws.take m,Nm8 z:=fun z hz=>by
  rcases List.mem_append.mp hz with h | h
  ·exact gw z (List.mem_of_mem_drop h)
  ·exact gw z (List.mem_of_mem_take h)
 have lw:(ws.drop m++ws.take m).length <= 3:=by rw[List.length_append,List.length_drop,List.length_take];omega
 generalize upd (upd (upd H1 b1 (.lst ((ws.drop m).map V.str))) b2 (.lst ((ws.take m).map V.str))) b3 (.lst ((ws.drop m).map V.str++(ws.take m).map V.str))=H2 at s13 hb3' ⊢
 generalize ws.drop m++ws.take m=w3 at hb3' gw' lw
 refine⟨_,rfl,_,rfl,(by decide),(by decide),fun B hB=>?_⟩
 refine cr (fun i acc G=>acc=((bi c).take i).map V.str/\acc.length=i/\Same H2 G/\G B=some (.lst acc)) (by decide) ⟨rfl,rfl,ac hB _,aa⟩ (fun i acc G ⟨_,l,_,d⟩=>⟨d,l⟩) ?_ ?_
 ·rintro i m' acc G hi ⟨e,l,sm,dd⟩ hm'
  have hi:i < 26:=hi
  refine⟨_,rfl,_,rfl,c,_,rfl,eF hi hm' dd ⟨?_,by rw[List.length_append,l];rfl,aN hB sm,aa⟩⟩
  have hw:(bi c)[i]?=some (wrd c (0+(i:Int))):=by
   unfold bi
   rw[List.getElem?_map,List.getElem?_range hi,show (0+(i:Int))=(i:Int) by omega]
   rfl
  rw[aJ hw,List.map_append,e]
  rfl
 ·rintro acc G ⟨e,l,sm,dd⟩
  have l26:(bi c).length=26:=by unfold bi;rw[List.length_map,List.length_range]
  have e:acc=(bi c).map V.str:=by rw[e,List.take_of_length_le (by show (bi c).length <= 26;omega)]
  subst e
  refine⟨b3,B,_,_,rfl,rfl,sm _ _ hb3',dd,bP (by rw[List.length_map,List.length_map];omega),fun b4 hb4=>?_⟩
  have s4:=ac hb4 (.lst (w3.map V.str++(bi c).map V.str))
  have hb4':upd G b4 (.lst (w3.map V.str++(bi c).map V.str)) b4=some (.lst ((w3++bi c).map V.str)):=by rw[aa,List.map_append]
  have sA:=sH.trans (s13.trans (sm.trans s4))
  generalize upd G b4 (.lst (w3.map V.str++(bi c).map V.str))=G4 at sA hb4' ⊢
  have huA:=sA _ _ hu
  have gall:∀ z ∈ w3++bi c,Nm8 z:=fun z hz=>by
   rcases List.mem_append.mp hz with h | h
   ·exact gw' z h
   ·unfold bi at h
    obtain⟨k,_,rfl⟩:=List.mem_map.mp h
    exact yF _ _
  refine⟨b4,rfl,⟨_,SqL.of hb4'⟩,cq (K:=K) (a:=b4) (xs:=(w3++bi c).map V.str) (fun i σ H'=>H'=G4/\(∃ x3 x4,σ=[some (.ref u),some (.str near),some (.int c),x3,x4])/\∀ j < i,∀ z,(w3++bi c)[j]?=some z->¬ (z ∉ used/\0 < z.length/\z.length < 9)) ⟨rfl,⟨_,_,rfl⟩,(fun j hj=>absurd hj (Nat.not_lt_zero j))⟩ (fun i σ H' _ ⟨e,_⟩=>by rw[e];exact SqL.of hb4') ?_ ?_⟩
  ·rintro i v σ H' hv ⟨rfl,⟨x3,x4,rfl⟩,hno⟩
   obtain⟨z,hz,rfl⟩ : ∃ z,(w3++bi c)[i]?=some z/\v=.str z:=by
    rw[List.getElem?_map] at hv
    cases e:(w3++bi c)[i]? with
    | none=>rw[e] at hv;cases hv
    | some z=>rw[e] at hv;exact⟨z,rfl,(Option.some.inj hv).symm⟩
   have gz:=gall z (List.mem_of_getElem? hz)
   have lz:=gz.1
   try dsimp only
   refine oR (fun H2'=>H2'=H'/\(z ∉ used/\0 < z.length/\z.length < 9)) (fun H2'=>H2'=H'/\¬ (z ∉ used/\0 < z.length/\z.length < 9)) (fun Q' qT qF=>?_) (fun H2' ⟨e,h⟩=>?_) (fun H2' ⟨e,h⟩=>?_)
   ·refine⟨_,rfl,_,rfl,u,_,rfl,.inl (SqL.of huA),rfl,fi _,_,rfl,?_⟩
    show if (!inV (.str z) (used.map V.str))=true then _ else _
    rw[jt]
    refine oK (fun g1=>?_) (fun g1=>qF _ ⟨rfl,fun h=>h.1 g1⟩)
    refine⟨_,rfl,z,rfl,bP (by omega),_,_,rfl,rfl,_,rfl,cW (fun g2=>?_) (fun g2=>qF _ ⟨rfl,fun h=>g2 (by omega)⟩)⟩
    refine⟨_,rfl,z,rfl,bP (by omega),_,_,rfl,rfl,_,rfl,?_⟩
    by_cases g3:(z.length:Int) < 9
    ·rw[decide_eq_true g3];exact qT _ ⟨rfl,g1,by omega,by omega⟩
    ·rw[decide_eq_false g3];exact qF _ ⟨rfl,fun h=>g3 (by omega)⟩
   ·subst e
    exact⟨_,rfl,q z _ sA h.1 gz⟩
   ·subst e
    refine⟨rfl,⟨_,_,rfl⟩,fun j hj z' hz'=>?_⟩
    rcases Nat.lt_succ_iff_lt_or_eq.mp hj with hj | rfl
    ·exact hno j hj z' hz'
    ·rw[hz] at hz'
     cases hz'
     exact h
  ·rintro σ H' ⟨rfl,⟨x3,x4,rfl⟩,hno⟩
   exfalso
   have:=pig (pP c) (used:=used) fun z hz=>by
    obtain⟨j,hj⟩:=List.getElem?_of_mem hz
    have hz2:(w3++bi c)[w3.length+j]?=some z:=by rw[List.getElem?_append_right (by omega),show w3.length+j - w3.length=j by omega];exact hj
    have hb:=aD hz2
    have h1:=hno (w3.length+j) (by rw[List.length_map];exact hb) z hz2
    have h2:0 < z.length/\z.length < 9:=by
     unfold bi at hz
     obtain⟨k,_,rfl⟩:=List.mem_map.mp hz
     exact sO _ _
    by_cases h:z ∈ used
    ·exact h
    ·exact absurd ⟨h,h2⟩ h1
   omega
end
end K41
namespace K41
open PySem L2 TR FT SP
open TM
theorem pZ {t rest:TS} {D:hX} {σ:St} {H:Hp} (R0:St->Hp->Prop) (key:∀ σ' H',R0 σ' H'->rest D σ' H') (k:∀ F:St->Hp->Prop,(∀ σ' H',R0 σ' H'->F σ' H')->t { D with nx:=F } σ H):tSeq t rest D σ H:=k (rest D) key
theorem cH {H:Hp} {w:Str} {ts:List Tm} {a b:Addr} {vs:List V} (ha:H a=some (.tup [.str "call",.str w,.ref b])) (hb:H b=some (.tup vs)) (hl:vs.length <= 1000) (h:TmsIs H ts vs):TmIs H (.call w ts) (.ref a):=by
 unfold TmIs
 exact⟨a,b,vs,rfl,ha,hb,hl,h⟩
theorem xx {H:Hp} {t:Tm} {v:V} (h:TmIs H t v):TmsIs H [t] [v]:=by unfold TmsIs TmsIs;exact⟨v,[],rfl,h,rfl⟩
theorem vB {H:Hp} {t u:Tm} {v x:V} (h:TmIs H t v) (g:TmIs H u x):TmsIs H [t,u] [v,x]:=by unfold TmsIs TmsIs TmsIs;exact⟨v,_,rfl,h,x,_,rfl,g,rfl⟩
theorem yi {H:Hp} {t u s:Tm} {v x y:V} (h:TmIs H t v) (g:TmIs H u x) (k:TmIs H s y):TmsIs H [t,u,s] [v,x,y]:=by unfold TmsIs TmsIs TmsIs TmsIs;exact⟨v,_,rfl,h,x,_,rfl,g,y,_,rfl,k,rfl⟩
theorem dI {H:Hp} {p:Addr} (h:H p=some (.tup [.str "mark"])):TmIs H .mark (.ref p):=by unfold TmIs;exact⟨p,rfl,h⟩
theorem mQ {H:Hp} {p:Addr} (h:H p=some (.tup [.str "row"])):TmIs H .row (.ref p):=by unfold TmIs;exact⟨p,rfl,h⟩
theorem rL {H:Hp} {p:Addr} {n:Int} (h:H p=some (.tup [.str "num",.int n])):TmIs H (.num n) (.ref p):=by unfold TmIs;exact⟨p,rfl,h⟩
theorem sX {H:Hp} {p:Addr} {z:Str} (h:H p=some (.tup [.str "text",.str z])):TmIs H (.text z) (.ref p):=by unfold TmIs;exact⟨p,rfl,h⟩
theorem fO {H:Hp} {p:Addr} {k:Int} {z:Str} (h:H p=some (.tup [.str "of",.int k,.str z])):TmIs H (.val k z) (.ref p):=by unfold TmIs;exact⟨p,rfl,h⟩
abbrev Vl:=Int × Str × Str × Int × Int
def VlIs (H:Hp) (e:Vl) (v:V):Prop:=∃ p,v=.ref p/\H p=some (.tup [.int e.1,.str e.2.1,.str e.2.2.1,.int e.2.2.2.1,.int e.2.2.2.2])
theorem VlIs.same {H H':Hp} (s:SameT H H') {e:Vl} {v:V} (h:VlIs H e v):VlIs H' e v:=by
 obtain⟨p,a,b⟩:=h
 exact⟨p,a,s _ _ b⟩
noncomputable def jo (e:Vl):Pr:=(e.1,e.2.1)
def vN:Sp:=fun vs H Q _=>∃ (kd:Str) (e:Vl) (v:V),vs=[.str kd,v]/\kd ∈ dh/\VlIs H e v/\∀ t x H',Same H H'->TmIs H' t x->TB [jo e] 3 4 t->Q x H'
def vW:Sp:=fun vs H Q _=>∃ (kd:Str) (c:Int),vs=[.str kd,.int c]/\∀ t x H',Same H H'->TmIs H' t x->TB [] 2 3 t->Q x H'
def vM:Sp:=fun vs H Q _=>∃ (kd:Str) (l:Addr) (es:List Vl) (us:List V) (c:Int),vs=[.str kd,.ref l,.int c]/\kd ∈ dh/\H l=some (.lst us)/\L2R (VlIs H) es us/\us.length <= 3/\∀ t x H',Same H H'->TmIs H' t x->TB (es.map jo) 12 100 t->Q x H'
theorem tX {kd:Str} (h:kd ∈ dh) (x y z:V):∃ v,dP (bx [] [((.inr "num" : Key),x),(.inr "text",y),(.inr "row",z)]) (.inr kd)=some v/\((kd = "num"/\v=x)\/(kd = "text"/\v=y)\/(kd = "row"/\v=z)):=by
 simp only[dh,List.mem_cons,List.mem_nil_iff,or_false] at h
 rcases h with rfl | rfl | rfl
 ·exact⟨x,rfl,.inl ⟨rfl,rfl⟩⟩
 ·exact⟨y,rfl,.inr (.inl ⟨rfl,rfl⟩)⟩
 ·exact⟨z,rfl,.inr (.inr ⟨rfl,rfl⟩)⟩
theorem ve {kd:Str} (h:kd ∈ dh) (d:Str):∃ dd:Str,dP (bx [] [((.inr "num" : Key),V.str d),(.inr "text",.str "glue"),(.inr "row",.str "link")]) (.inr kd)=some (.str dd):=by
 simp only[dh,List.mem_cons,List.mem_nil_iff,or_false] at h
 rcases h with rfl | rfl | rfl
 ·exact⟨d,rfl⟩
 ·exact⟨_,rfl⟩
 ·exact⟨_,rfl⟩
section
variable {P:Program} {w:World} {K:W.Frag} {mg:Str->Option Value} {base:Heap} {T:Adr}
theorem uj (X:Tx K mg T):FnOk P w K mg base CX0 1 T.qBB T.d_qBB ["_law_kind", "_law_one"] vN:=by
 refine X.F_qBB.okQ sc_qBB (fun vs H Q E h=>?_) (fun cdv A outer s H vs Q E hr h=>?_)
 ·obtain⟨_,_,_,rfl,_⟩:=h
  rfl
 obtain⟨kd,⟨k,n,kd2,rk,sd⟩,v,rfl,hk,⟨p,rfl,hp⟩,q⟩:=h
 have hp:H p=some (.tup [.int k,.str n,.str kd2,.int rk,.int sd]):=hp
 have hin:(k,n) ∈ [jo (k,n,kd2,rk,sd)]:=List.mem_singleton.mpr rfl
 refine⟨_,(ag (am (i:=2) sc_qBB.nd rfl (Or.inl rfl) (ak (qaC aw (qaS (ao ar (qv 1) af (fun _ _=>rfl)) (qaS (ao ar (qv 1) af (fun _ _=>rfl)) ae))))) (ag (bp (aK bL (qv 0) (ao ar (qv 1) af (fun _ _=>rfl)) (aP _)) (ai (ay (qv 2))) aL) (ag (bp (aK qx (ao ar (qv 1) af (fun _ _=>rfl)) aw (aP _)) (ai (am (i:=2) sc_qBB.nd rfl (Or.inl rfl) (ak (qaC aw (qaS (ao aS (aV (qaC aw (qaC aw ae))) (aY iM rfl X.z_int PyProof.Rows.boot_int (qaM (cS bL (ao ar (qv 1) af (fun _ _=>rfl)) aw (aP _)) ae)) (fun _ _=>rfl)) (qaT (ak (qaN (qv 2) ae)) ae)))))) aL) (ai (ay (nP (qV hr) (nO (dm aw (qv 2) (dm aw (ak (qaC aw (qaC aw (qaT (ak (qaN (qv 2) ae)) ae)))) (dm aw (ak (qaC aw (qaC aw (qaT (ak (qaT (ak (qaC aw ae)) (qaN (qv 2) ae))) ae)))) nR)))) (qv 0))))))),?_⟩
 dsimp only[cm]
 refine⟨_,rfl,p,_,0,_,rfl,rfl,SqT.of hp,rfl,_,rfl,p,_,1,_,rfl,rfl,SqT.of hp,rfl,(by show 3 <= sizeLine;decide),fun a1 h1=>?_⟩
 have s1:=ac h1 (.tup [.str "of",.int k,.str n])
 have hp1:=s1 _ _ hp
 have t1:=fO (aa (H:=H) (a:=a1) (o:=.tup [.str "of",.int k,.str n]))
 generalize upd H a1 (.tup [.str "of",.int k,.str n])=H1 at s1 hp1 t1 ⊢
 refine⟨_,rfl,_,rfl,p,_,2,.str kd2,rfl,rfl,SqT.of hp1,rfl,rfl,_,rfl,cW (fun _=>?_) (fun _=>?_)⟩
 ·exact⟨_,rfl,q _ _ H1 s1 t1 ((TB.val hin).le (by decide) (by decide))⟩
 unfold tNext
 dsimp only
 refine pZ (fun σ' H2=>∃ t x,σ'=[some (.str kd),some (.ref p),some x]/\Same H H2/\TmIs H2 t x/\TB [jo (k,n,kd2,rk,sd)] 2 2 t) ?_ ?_
 ·rintro σ' H2 ⟨t,x,rfl,s2,ht,d2⟩
  intro dp hdp
  have s4:=ac hdp (.dK [])
  have hdp4:=aa (H:=H2) (a:=dp) (o:=.dK [])
  refine⟨_,rfl,_,rfl,(by show 1 <= sizeLine;decide),fun a3 h3=>⟨(by show 3 <= sizeLine;decide),fun a4 h4=>⟨(by show 1 <= sizeLine;decide),fun a5 h5=>⟨_,rfl,(by show 2 <= sizeLine;decide),fun a6 h6=>⟨(by show 3 <= sizeLine;decide),fun a7 h7=>?_⟩⟩⟩⟩⟩
  have u3:=ac h3 (.tup [x])
  have u4:=ac h4 (.tup [.str "call",.str "show",.ref a3])
  have u5:=ac h5 (.tup [.str "row"])
  have u6:=ac h6 (.tup [.ref a5,x])
  have u7:=ac h7 (.tup [.str "call",.str "put",.ref a6])
  have uA:=u3.trans (u4.trans (u5.trans (u6.trans u7)))
  refine⟨uA _ _ hdp4,[(.inr "num",x),(.inr "text",.ref a4),(.inr "row",.ref a7)],rfl,(by show 3 <= 15;decide),?_⟩
  have g3:=(u4.trans (u5.trans (u6.trans u7))) _ _ (aa (H:=upd H2 dp (.dK [])) (a:=a3) (o:=.tup [x]))
  have g4:=(u5.trans (u6.trans u7)) _ _ (aa (H:=upd (upd H2 dp (.dK [])) a3 (.tup [x])) (a:=a4) (o:=.tup [.str "call",.str "show",.ref a3]))
  have g5:=(u6.trans u7) _ _ (aa (H:=upd (upd (upd H2 dp (.dK [])) a3 (.tup [x])) a4 (.tup [.str "call",.str "show",.ref a3])) (a:=a5) (o:=.tup [.str "row"]))
  have g6:=u7 _ _ (aa (H:=upd (upd (upd (upd H2 dp (.dK [])) a3 (.tup [x])) a4 (.tup [.str "call",.str "show",.ref a3])) a5 (.tup [.str "row"])) (a:=a6) (o:=.tup [.ref a5,x]))
  have g7:=aa (H:=upd (upd (upd (upd (upd H2 dp (.dK [])) a3 (.tup [x])) a4 (.tup [.str "call",.str "show",.ref a3])) a5 (.tup [.str "row"])) a6 (.tup [.ref a5,x])) (a:=a7) (o:=.tup [.str "call",.str "put",.ref a6])
  have sB:=s4.trans uA
  have hdp7:=uA _ _ hdp4
  generalize upd (upd (upd (upd (upd (upd H2 dp (.dK [])) a3 (.tup [x])) a4 (.tup [.str "call",.str "show",.ref a3])) a5 (.tup [.str "row"])) a6 (.tup [.ref a5,x])) a7 (.tup [.str "call",.str "put",.ref a6])=H7 at g3 g4 g5 g6 g7 sB hdp7 ⊢
  have s8:Same H2 (upd H7 dp (.dK (bx [] [(.inr "num",x),(.inr "text",.ref a4),(.inr "row",.ref a7)]))):=aN hdp sB
  have T8:SameT H7 (upd H7 dp (.dK (bx [] [(.inr "num",x),(.inr "text",.ref a4),(.inr "row",.ref a7)]))):=fun b xs e=>by
   rw[av (fun z=>by rw[z,hdp7] at e;cases e)]
   exact e
  have hd8:=aa (H:=H7) (a:=dp) (o:=.dK (bx [] [(.inr "num",x),(.inr "text",.ref a4),(.inr "row",.ref a7)]))
  obtain⟨v,hv,hor⟩:=tX hk x (.ref a4) (.ref a7)
  have hget:=DGet.k (k:=.inr kd) hd8
  rw[hv] at hget
  have t8:=TmIs.same (au s8) t ht
  generalize upd H7 dp (.dK (bx [] [(.inr "num",x),(.inr "text",.ref a4),(.inr "row",.ref a7)]))=H8 at s8 T8 hget t8 ⊢
  refine⟨_,rfl,dp,v,rfl,hget,?_⟩
  rcases hor with ⟨_,rfl⟩ | ⟨_,rfl⟩ | ⟨_,rfl⟩
  ·exact q t _ H8 (s2.trans s8) t8 (d2.le (by decide) (by decide))
  ·exact q _ _ H8 (s2.trans s8) (cH (T8 _ _ g4) (T8 _ _ g3) (by show 1 <= 1000;decide) (xx t8)) (d2.call1.le (by decide) (by decide))
  ·exact q _ _ H8 (s2.trans s8) (cH (T8 _ _ g7) (T8 _ _ g6) (by show 2 <= 1000;decide) (vB (mQ (T8 _ _ g5)) t8)) ((TB.row.call2 d2).le (by decide) (by decide))
 ·intro F hF
  refine⟨_,rfl,p,_,2,.str kd2,rfl,rfl,SqT.of hp1,rfl,rfl,_,rfl,oK (fun _=>?_) (fun _=>hF _ _ ⟨_,_,rfl,s1,t1,(TB.val hin).le (by decide) (by decide)⟩)⟩
  refine⟨(by show 2 <= sizeLine;decide),fun a2 h2=>?_⟩
  have s2:=ac h2 (.lst [.str "size",.str "many"])
  have hp2:=s2 _ _ hp1
  obtain⟨dd,hdd⟩ : ∃ dd:Str,atI [V.str "size",V.str "many"] (if decide (V.str kd2=V.str "row")=true then 1 else 0)=some (.str dd):=by
   by_cases h:V.str kd2=V.str "row"
   ·rw[decide_eq_true h];exact⟨_,rfl⟩
   ·rw[decide_eq_false h];exact⟨_,rfl⟩
  refine⟨_,rfl,p,_,2,.str kd2,rfl,rfl,SqT.of hp2,rfl,rfl,.inr ⟨_,rfl,a2,_,_,.str dd,rfl,rfl,SqL.of aa,hdd,_,rfl,(by show 1 <= sizeLine;decide),fun a3 h3=>⟨(by show 3 <= sizeLine;decide),fun a4 h4=>?_⟩⟩⟩
  have s3:=ac h3 (.tup [.ref a1])
  have s4:=ac h4 (.tup [.str "call",.str dd,.ref a3])
  exact hF _ _ ⟨_,_,rfl,s1.trans (s2.trans (s3.trans s4)),cH aa (s4 _ _ aa) (by show 1 <= 1000;decide) (xx (TmIs.same (au (s2.trans (s3.trans s4))) _ t1)),((TB.val hin).call1).le (by decide) (by decide)⟩
theorem ux (X:Tx K mg T):FnOk P w K mg base CX0 1 T.qBD T.d_qBD ["_law_kind", "_law_cell"] vW:=by
 refine X.F_qBD.okQ wa (fun vs H Q E h=>?_) (fun cdv A outer s H vs Q E hr h=>?_)
 ·obtain⟨_,_,rfl,_⟩:=h
  rfl
 obtain⟨kd,c,rfl,q⟩:=h
 refine⟨_,(ag (bp (aK bL (qv 0) aw (aP _)) (ai (ay (ao aS (aV (qaT (ak (qaC aw (qaB (aj aM (aj aO (qv 1) af) (aj iq af af)) ae))) (qaT (ak (qaC aw ae)) (qaT (ak (qaC aw (qaB (aj aM (aj aO (qv 1) af) af) ae))) ae)))) (aj aM (qv 1) af) (fun _ _=>rfl)))) aL) (ag (bp (aK bL (qv 0) aw (aP _)) (ai (ay (ao aS (aV (qaT (ak (qaC aw (qaC aw (qaT (ak (qaT (ak (qaC aw ae)) ae)) ae)))) (qaT (ak (qaC aw (qaS (ao aS (aV (qaC aw (qaC aw (qaC aw ae)))) (aj aM (aj aO (qv 1) af) af) (fun _ _=>rfl)) ae))) ae))) (aj aM (qv 1) af) (fun _ _=>rfl)))) aL) (ai (ay (ao aS (aV (qaT (ak (qaC aw ae)) (qaT (ak (qaC aw (qaC aw (qaT (ak (qaT (ak (qaC aw ae)) (qaT (ak (qaC aw ae)) ae))) ae)))) ae))) (aj aM (qv 1) af) (fun _ _=>rfl)))))),?_⟩
 dsimp only[cm]
 refine⟨_,rfl,rfl,_,rfl,cW (fun _=>?_) (fun _=>?_)⟩
 ·refine⟨_,rfl,_,_,rfl,rfl,⟨by decide,by decide⟩,_,_,rfl,rfl,⟨by decide,by decide,by decide⟩,_,_,rfl,rfl,(by show (0:Int) < 10 ^ Int.toNat 18;decide),(by show 2 <= sizeLine;decide),fun a1 h1=>⟨(by show 1 <= sizeLine;decide),fun a2 h2=>⟨_,rfl,_,_,rfl,rfl,⟨by decide,by decide⟩,_,_,rfl,rfl,(by show (0:Int) < 3;decide),(by show 2 <= sizeLine;decide),fun a3 h3=>⟨(by show 3 <= sizeLine;decide),fun a4 h4=>?_⟩⟩⟩⟩
  have s1:=ac h1 (.tup [.str "num",.int (c / 3 % 10 ^ Int.toNat 18)])
  have s2:=ac h2 (.tup [.str "mark"])
  have s3:=ac h3 (.tup [.str "num",.int (c / 3 % 3)])
  have s4:=ac h4 (.lst [.ref a1,.ref a2,.ref a3])
  have sA:=s1.trans (s2.trans (s3.trans s4))
  have g1:=(s2.trans (s3.trans s4)) _ _ (aa (H:=H) (a:=a1) (o:=.tup [.str "num",.int (c / 3 % 10 ^ Int.toNat 18)]))
  have hm:c % 3=0\/c % 3=1\/c % 3=2:=by omega
  rcases hm with e | e | e
  ·exact⟨_,rfl,_,_,rfl,rfl,(by show (0:Int) < 3;decide),a4,_,_,.ref a1,rfl,rfl,SqL.of aa,by rw[e];rfl,q _ _ _ sA (rL g1) (TB.num.le (by decide) (by decide))⟩
  ·exact⟨_,rfl,_,_,rfl,rfl,(by show (0:Int) < 3;decide),a4,_,_,.ref a2,rfl,rfl,SqL.of aa,by rw[e];rfl,q _ _ _ sA (dI ((s3.trans s4) _ _ aa)) (TB.mark.le (by decide) (by decide))⟩
  ·exact⟨_,rfl,_,_,rfl,rfl,(by show (0:Int) < 3;decide),a4,_,_,.ref a3,rfl,rfl,SqL.of aa,by rw[e];rfl,q _ _ _ sA (rL (s4 _ _ aa)) (TB.num.le (by decide) (by decide))⟩
 refine⟨_,rfl,rfl,_,rfl,cW (fun _=>?_) (fun _=>?_)⟩
 ·refine⟨(by show 1 <= sizeLine;decide),fun a3 h3=>⟨(by show 1 <= sizeLine;decide),fun a4 h4=>⟨(by show 3 <= sizeLine;decide),fun a5 h5=>⟨(by show 3 <= sizeLine;decide),fun a1 h1=>?_⟩⟩⟩⟩
  have s3:=ac h3 (.tup [.str "mark"])
  have s4:=ac h4 (.tup [.ref a3])
  have s5:=ac h5 (.tup [.str "call",.str "show",.ref a4])
  have s1:=ac h1 (.lst [.str "",.str "ab3",.str "z9"])
  obtain⟨z,hz⟩ : ∃ z:Str,atI [V.str "",V.str "ab3",V.str "z9"] (c / 2 % 3)=some (.str z):=by
   have h4:c / 2 % 3=0\/c / 2 % 3=1\/c / 2 % 3=2:=by omega
   rcases h4 with e | e | e <;> rw[e] <;> exact⟨_,rfl⟩
  refine⟨_,rfl,_,_,rfl,rfl,⟨by decide,by decide⟩,_,_,rfl,rfl,(by show (0:Int) < 3;decide),a1,_,_,.str z,rfl,rfl,SqL.of aa,hz,(by show 2 <= sizeLine;decide),fun a2 h2=>⟨(by show 2 <= sizeLine;decide),fun a6 h6=>?_⟩⟩
  have s2:=ac h2 (.tup [.str "text",.str z])
  have s6:=ac h6 (.lst [.ref a5,.ref a2])
  have sB:=s1.trans (s2.trans s6)
  have sA:=s3.trans (s4.trans (s5.trans sB))
  have hm:c % 2=0\/c % 2=1:=by omega
  rcases hm with e | e
  ·exact⟨_,rfl,_,_,rfl,rfl,(by show (0:Int) < 2;decide),a6,_,_,.ref a5,rfl,rfl,SqL.of aa,by rw[e];rfl,q _ _ _ sA (cH (sB _ _ aa) ((s5.trans sB) _ _ aa) (by show 1 <= 1000;decide) (xx (dI ((s4.trans (s5.trans sB)) _ _ aa)))) (TB.mark.call1.le (by decide) (by decide))⟩
  ·exact⟨_,rfl,_,_,rfl,rfl,(by show (0:Int) < 2;decide),a6,_,_,.ref a2,rfl,rfl,SqL.of aa,by rw[e];rfl,q _ _ _ sA (sX (s6 _ _ aa)) (TB.text.le (by decide) (by decide))⟩
 ·refine⟨(by show 1 <= sizeLine;decide),fun a1 h1=>⟨(by show 1 <= sizeLine;decide),fun a2 h2=>⟨(by show 1 <= sizeLine;decide),fun a3 h3=>⟨(by show 2 <= sizeLine;decide),fun a4 h4=>⟨(by show 3 <= sizeLine;decide),fun a5 h5=>⟨(by show 2 <= sizeLine;decide),fun a6 h6=>?_⟩⟩⟩⟩⟩⟩
  have s1:=ac h1 (.tup [.str "row"])
  have s2:=ac h2 (.tup [.str "row"])
  have s3:=ac h3 (.tup [.str "mark"])
  have s4:=ac h4 (.tup [.ref a2,.ref a3])
  have s5:=ac h5 (.tup [.str "call",.str "put",.ref a4])
  have s6:=ac h6 (.lst [.ref a1,.ref a5])
  have sA:=s1.trans (s2.trans (s3.trans (s4.trans (s5.trans s6))))
  have hm:c % 2=0\/c % 2=1:=by omega
  rcases hm with e | e
  ·exact⟨_,rfl,_,_,rfl,rfl,(by show (0:Int) < 2;decide),a6,_,_,.ref a1,rfl,rfl,SqL.of aa,by rw[e];rfl,q _ _ _ sA (mQ ((s2.trans (s3.trans (s4.trans (s5.trans s6)))) _ _ aa)) (TB.row.le (by decide) (by decide))⟩
  ·exact⟨_,rfl,_,_,rfl,rfl,(by show (0:Int) < 2;decide),a6,_,_,.ref a5,rfl,rfl,SqL.of aa,by rw[e];rfl,q _ _ _ sA (cH (s6 _ _ aa) ((s5.trans s6) _ _ aa) (by show 2 <= 1000;decide) (vB (mQ ((s3.trans (s4.trans (s5.trans s6))) _ _ aa)) (dI ((s4.trans (s5.trans s6)) _ _ aa)))) ((TB.row.call2 TB.mark).le (by decide) (by decide))⟩
end
section
variable {P:Program} {w:World} {K:W.Frag} {mg:Str->Option Value} {base:Heap} {T:Adr}
theorem ui (X:Tx K mg T):FnOk P w K mg base CX0 2 T.qBI T.d_qBI ["_law_kind", "_law_some", "_law_cell"] vM:=by
 have G_qBD:=ux (P:=P) (w:=w) (base:=base) X
 have G_qBB:=uj (P:=P) (w:=w) (base:=base) X
 refine X.F_qBI.okQ sc_qBI (fun vs H Q E h=>?_) (fun cdv A outer s H vs Q E hr h=>?_)
 ·obtain⟨_,_,_,_,_,rfl,_⟩:=h
  rfl
 obtain⟨kd,l,es,us,c,rfl,hk,hl,hus,lus,q⟩:=h
 refine⟨_,(ag (am (i:=3) sc_qBI.nd rfl (Or.inl rfl) (aq G_qBD hr rfl X.m_qBD X.F_qBD.kp X.b_qBD .nil aW (qaN (qv 0) (qaN (qv 2) ae)))) (ag (bq PassesOwn.never rfl (bB (qv 1)) (az (i:=4) sc_qBI.nd rfl (Or.inl rfl)) (ag (am (i:=2) sc_qBI.nd rfl (Or.inl rfl) (aj aO (qv 2) af)) (ag (am (i:=5) sc_qBI.nd rfl (Or.inl rfl) (aV (qaN (qv 3) (qaK (aq G_qBB hr rfl X.m_qBB X.F_qBB.kp X.b_qBB .nil aW (qaN (qv 0) (qaN (qv 4) ae))) ae)))) (ag (am (i:=6) sc_qBI.nd rfl (Or.inl rfl) (nP (qV hr) (nO (dm aw (ao aS (aV (qaC aw (qaC aw (qaC aw (qaC aw ae))))) (aj aM (qv 2) af) (fun _ _=>rfl)) (dm aw aw (dm aw aw nR)))) (qv 0))) (ag (am (i:=3) sc_qBI.nd rfl (Or.inl rfl) (ak (qaC aw (qaN (qv 6) (qaT (ak (qaS (ao aS (qv 5) (aj aM (aj aO (qv 2) af) af) (fun _ _=>rfl)) (qaS (ao aS (qv 5) (aj cx af (aj aM (aj aO (qv 2) af) af)) (fun _ _=>rfl)) ae))) ae))))) (ai (bp (aK bL (aj aM (aj aO (qv 2) af) af) af (aP _)) (ai (am (i:=3) sc_qBI.nd rfl (Or.inl rfl) (ak (qaC aw (qaC aw (qaB (aj cy (ak (qaT (ak (qaC aw ae)) ae)) (ao ar (qv 3) af (fun _ _=>rfl))) ae)))))) aL))))))) (ag (bp (aK bL (aj aM (aj aO (qv 2) af) af) af (aP _)) (ai (am (i:=3) sc_qBI.nd rfl (Or.inl rfl) (ak (qaC aw (qaC aw (qaT (ak (qaT (ak (qaC aw ae)) (qaN (qv 3) (qaK (aq G_qBD hr rfl X.m_qBD X.F_qBD.kp X.b_qBD .nil aW (qaN (qv 0) (qaB (aj aO (qv 2) af) ae))) ae)))) ae)))))) aL) (ai (ay (qv 3)))))),?_⟩
 dsimp only[cm]
 refine⟨_,rfl,_,rfl,kd,c,rfl,fun t0 x0 H0 s0 ht0 d0=>?_⟩
 refine⟨_,rfl,l,rfl,⟨_,SqL.of (s0 _ _ hl)⟩,cq (K:=K) (a:=l) (xs:=us) (fun i σ H'=>Same H H'/\∃ (t:Tm) (x:V) (c':Int) (y4 y5 y6:Option V),σ=[some (.str kd),some (.ref l),some (.int c'),some x,y4,y5,y6]/\TmIs H' t x/\TB (es.map jo) (3+i) (3+6 * (i:Int)) t)
  ⟨s0,t0,x0,c,none,none,none,rfl,ht0,d0.mono (fun _ h=>nomatch h) (by omega) (by omega)⟩ (fun i σ H' _ ⟨sm,_⟩=>SqL.of (sm _ _ hl)) ?_ ?_⟩
 ·rintro i v σ H' hv ⟨sm,t,x,c',y4,y5,y6,rfl,ht,dt⟩
  obtain⟨e,he,hve⟩:=hus.get hv
  refine⟨_,rfl,_,_,rfl,rfl,⟨by decide,by decide⟩,?_⟩
  dsimp only
  generalize c' / 7=c2
  have hem:∀ p ∈ [jo e],p ∈ es.map jo:=fun p hp=>by rw[List.mem_singleton.mp hp];exact List.mem_map.mpr ⟨e,List.mem_of_getElem? he,rfl⟩
  refine⟨_,rfl,_,rfl,_,rfl,kd,e,v,rfl,hk,VlIs.same (au sm) hve,fun t2 x2 H2 s2 ht2 d2=>⟨(by show 2 <= sizeLine;decide),fun a1 h1=>?_⟩⟩
  have s3:=ac h1 (.lst [x,x2])
  have hpr:=aa (H:=H2) (a:=a1) (o:=.lst [x,x2])
  have tA:=TmIs.same (au (s2.trans s3)) t ht
  have tB:=TmIs.same (au s3) t2 ht2
  have sm3:=sm.trans (s2.trans s3)
  generalize upd H2 a1 (.lst [x,x2])=H3 at s3 hpr tA tB sm3 ⊢
  intro dp hdp
  have s4:=ac hdp (.dK [])
  refine⟨(by show 4 <= sizeLine;decide),fun a2 h2=>?_⟩
  have s5:=ac h2 (.lst [.str "add",.str "mul",.str "sub",.str "less"])
  obtain⟨dd,hdd⟩ : ∃ dd:Str,atI [V.str "add",V.str "mul",V.str "sub",V.str "less"] (c2 % 4)=some (.str dd):=by
   have h4:c2 % 4=0\/c2 % 4=1\/c2 % 4=2\/c2 % 4=3:=by omega
   rcases h4 with e | e | e | e <;> rw[e] <;> exact⟨_,rfl⟩
  refine⟨_,rfl,_,_,rfl,rfl,(by show (0:Int) < 4;decide),a2,_,_,.str dd,rfl,rfl,SqL.of aa,hdd,s5 _ _ aa,[(.inr "num",.str dd),(.inr "text",.str "glue"),(.inr "row",.str "link")],rfl,(by show 3 <= 15;decide),?_⟩
  obtain⟨de,hde⟩:=ve hk dd
  have ndp:∀ o,o ≠ HO.dK []->True:=fun _ _=>trivial
  have s6:Same H3 (upd (upd (upd H3 dp (.dK [])) a2 (.lst [.str "add",.str "mul",.str "sub",.str "less"])) dp (.dK (bx [] [(.inr "num",.str dd),(.inr "text",.str "glue"),(.inr "row",.str "link")]))):=aN hdp (s4.trans s5)
  refine⟨_,rfl,dp,.str de,rfl,by have:=DGet.k (k:=.inr kd) (aa (H:=upd (upd H3 dp (.dK [])) a2 (.lst [.str "add",.str "mul",.str "sub",.str "less"])) (a:=dp) (o:=.dK (bx [] [(.inr "num",.str dd),(.inr "text",.str "glue"),(.inr "row",.str "link")])));rw[hde] at this;exact this,?_⟩
  have hpr6:=s6 _ _ hpr
  have tA6:=TmIs.same (au s6) t tA
  have tB6:=TmIs.same (au s6) t2 tB
  have sm6:=sm3.trans s6
  generalize upd (upd (upd H3 dp (.dK [])) a2 (.lst [.str "add",.str "mul",.str "sub",.str "less"])) dp (.dK (bx [] [(.inr "num",.str dd),(.inr "text",.str "glue"),(.inr "row",.str "link")]))=H6 at s6 hpr6 tA6 tB6 sm6 ⊢
  obtain⟨u1,u2,v1,v2,hi1,hi2,g1,g2,e1',e2',f1',f2',b1',b2',mx,sx⟩ : ∃ (u1 u2:Tm) (v1 v2:V),atI [x,x2] (c2 / 4 % 2)=some v1/\atI [x,x2] (1 - c2 / 4 % 2)=some v2/\TmIs H6 u1 v1/\TmIs H6 u2 v2/\∃ (d1 d2:Nat) (k1 k2:Int),TB (es.map jo) d1 k1 u1/\TB (es.map jo) d2 k2 u2/\max d1 d2=3+i/\k1+k2=3+6 * (i:Int)+4:=by
   have h2:c2 / 4 % 2=0\/c2 / 4 % 2=1:=by omega
   rcases h2 with e | e <;> rw[e]
   ·exact⟨t,t2,x,x2,rfl,rfl,tA6,tB6,_,_,_,_,dt,d2.mono hem (Nat.le_refl _) (Int.le_refl _),by omega,rfl⟩
   ·exact⟨t2,t,x2,x,rfl,rfl,tB6,tA6,_,_,_,_,d2.mono hem (Nat.le_refl _) (Int.le_refl _),dt,by omega,by omega⟩
  refine⟨_,rfl,_,rfl,_,rfl,_,_,rfl,rfl,⟨by decide,by decide⟩,_,_,rfl,rfl,(by show (0:Int) < 2;decide),a1,_,_,v1,rfl,rfl,SqL.of hpr6,hi1,_,rfl,_,rfl,_,_,rfl,rfl,⟨by decide,by decide⟩,_,_,rfl,rfl,(by show (0:Int) < 2;decide),_,_,rfl,rfl,a1,_,_,v2,rfl,rfl,SqL.of hpr6,hi2,(by show 2 <= sizeLine;decide),fun b1 hb1=>⟨(by show 3 <= sizeLine;decide),fun b2 hb2=>?_⟩⟩
  have s7:=ac hb1 (.tup [v1,v2])
  have s8:=ac hb2 (.tup [.str "call",.str de,.ref b1])
  have s78:=s7.trans s8
  have hb1':=s8 _ _ (aa (H:=H6) (a:=b1) (o:=.tup [v1,v2]))
  have hb2':=aa (H:=upd H6 b1 (.tup [v1,v2])) (a:=b2) (o:=.tup [.str "call",.str de,.ref b1])
  have g1':=TmIs.same (au s78) u1 g1
  have g2':=TmIs.same (au s78) u2 g2
  generalize upd (upd H6 b1 (.tup [v1,v2])) b2 (.tup [.str "call",.str de,.ref b1])=H8 at s78 hb1' hb2' g1' g2' ⊢
  refine⟨_,rfl,_,_,rfl,rfl,⟨by decide,by decide⟩,_,_,rfl,rfl,(by show (0:Int) < 3;decide),rfl,_,rfl,cW (fun _=>?_) (fun _=>?_)⟩
  ·refine⟨(by show 1 <= sizeLine;decide),fun m1 hm1=>⟨(by show 1 <= sizeLine;decide),fun m2 hm2=>?_⟩⟩
   have s9:=ac hm1 (.tup [.str "mark"])
   have s10:=ac hm2 (.tup [.ref m1])
   refine⟨_,rfl,b2,_,2,_,rfl,rfl,SqT.of ((s9.trans s10) _ _ hb2'),rfl,m2,b1,[.ref m1],[v1,v2],rfl,rfl,aa,(s9.trans s10) _ _ hb1',bP (by show 1+2 <= 100000;decide),fun m3 H11 s11 hm3=>⟨(by show 3 <= sizeLine;decide),fun m4 hm4=>?_⟩⟩
   have s12:=ac hm4 (.tup [.str "call",.str "pick",.ref m3])
   have sB:=s11.trans s12
   have sC:=s9.trans (s10.trans sB)
   refine⟨sm6.trans (s78.trans sC),.call "pick" [.mark,u1,u2],_,_,_,_,_,rfl,cH aa (s12 _ _ hm3) (by show 3 <= 1000;decide) (yi (dI ((s10.trans sB) _ _ aa)) (TmIs.same (au sC) u1 g1') (TmIs.same (au sC) u2 g2')),(TB.mark.call3 b1' b2').le (by omega) (by omega)⟩
  ·exact⟨sm6.trans s78,.call de [u1,u2],_,_,_,_,_,rfl,cH hb2' hb1' (by show 2 <= 1000;decide) (vB g1' g2'),(b1'.call2 b2').le (by omega) (by omega)⟩
 ·rintro σ H' ⟨sm,t,x,c',y4,y5,y6,rfl,ht,dt⟩
  refine⟨_,rfl,_,_,rfl,rfl,⟨by decide,by decide⟩,_,_,rfl,rfl,(by show (0:Int) < 4;decide),rfl,_,rfl,cW (fun _=>?_) (fun _=>⟨_,rfl,q t x H' sm ht (dt.le (by omega) (by omega))⟩)⟩
  refine⟨(by show 1 <= sizeLine;decide),fun m1 hm1=>?_⟩
  have s1:=ac hm1 (.tup [.str "mark"])
  refine⟨_,rfl,_,rfl,_,rfl,_,_,rfl,rfl,⟨by decide,by decide⟩,kd,_,rfl,fun t2 x2 H2 s2 ht2 d2=>⟨(by show 3 <= sizeLine;decide),fun m2 hm2=>⟨(by show 3 <= sizeLine;decide),fun m3 hm3=>?_⟩⟩⟩
  have s3:=ac hm2 (.tup [.ref m1,x,x2])
  have s4:=ac hm3 (.tup [.str "call",.str "pick",.ref m2])
  have sA:=s1.trans (s2.trans (s3.trans s4))
  refine⟨_,rfl,q (.call "pick" [.mark,t,t2]) _ _ (sm.trans sA) (cH aa (s4 _ _ aa) (by show 3 <= 1000;decide) (yi (dI ((s2.trans (s3.trans s4)) _ _ aa)) (TmIs.same (au sA) t ht) (TmIs.same (au (s3.trans s4)) t2 ht2))) ((TB.mark.call3 dt (d2.mono (fun _ h=>nomatch h) (Nat.le_refl _) (Int.le_refl _))).le (by omega) (by omega))⟩
end
end K41
namespace K41
open PySem L2 TR FT SP
open TM
theorem oA {m:Int} (h0 : -1 <= m) (h1:m <= 3):∃ kd:Str,atI [V.str "num",V.str "text",V.str "row",V.str "num"] m=some (.str kd)/\kd ∈ dh:=by
 have:m=-1\/m=0\/m=1\/m=2\/m=3:=by omega
 rcases this with rfl | rfl | rfl | rfl | rfl
 ·exact⟨"num",rfl,by decide⟩
 ·exact⟨"num",rfl,by decide⟩
 ·exact⟨"text",rfl,by decide⟩
 ·exact⟨"row",rfl,by decide⟩
 ·exact⟨"num",rfl,by decide⟩
structure SgG (s:Sg):Prop where
 ok:∀ p ∈ s.dn++s.up,yZ p
 nd:((s.dn++s.up).map Prod.fst).Nodup
 ld:s.dn.length <= 2
 lu:s.up.length <= 2
 tx:iU s.nm
structure yB (sg:List Sg):Prop where
 nm:∀ s ∈ sg,pK s.nm
 g:∀ s ∈ sg,SgG s
 nd:(sg.map Sg.nm).Nodup
 l1:1 <= sg.length
 l6:sg.length <= 3
def tq:Sp:=fun vs H Q _=>∃ (d:Addr) (cs:List Int),vs=[.ref d]/\H d=some (.lst (cs.map V.int))/\20 <= cs.length/\cs.length <= 140 /\
 ∀ (a:Addr) (us:List V) (sg:List Sg) (cs':List Int) (H':Hp),Kp [d] H H'->H' d=some (.lst (cs'.map V.int))->cs.length <= cs'.length+5->cs'.length <= 140->H' a=some (.tup us)->L2R (SgIs H') sg us->yB sg->Q (.ref a) H'
theorem qu {c:Int} {dn up:List (Str × Str)} (h1:∀ (j:Nat) p,dn[j]?=some p->p.1=wrd c j) (h2:∀ (j:Nat) p,up[j]?=some p->p.1=wrd c (2+(j:Int))) (l1:dn.length <= 2) (l2:up.length <= 2):((dn++up).map Prod.fst).Nodup:=by
 have key:∀ j x,((dn++up).map Prod.fst)[j]?=some x->∃ m:Int,x=wrd c m/\0 <= m/\m < 26/\(if j < dn.length then m=j else m=2+((j - dn.length:Nat):Int))/\j < dn.length+up.length:=fun j x hx=>by
  rw[List.getElem?_map] at hx
  cases e:(dn++up)[j]? with
  | none=>rw[e] at hx;cases hx
  | some p=>
   rw[e] at hx
   have hx:x=p.1:=(Option.some.inj hx).symm
   have hj:=aD e
   rw[List.length_append] at hj
   by_cases hlt:j < dn.length
   ·rw[List.getElem?_append_left hlt] at e
    exact⟨j,by rw[hx,h1 j p e],by omega,by omega,by rw[if_pos hlt],hj⟩
   ·rw[List.getElem?_append_right (by omega)] at e
    exact⟨2+((j - dn.length:Nat):Int),by rw[hx,h2 _ p e],by omega,by omega,by rw[if_neg hlt],hj⟩
 refine List.pairwise_iff_getElem.mpr fun i j hi hj hlt he=>?_
 obtain⟨m1,e1,a1,b1,c1,d1⟩:=key i _ (List.getElem?_eq_getElem hi)
 obtain⟨m2,e2,a2,b2,c2,d2⟩:=key j _ (List.getElem?_eq_getElem hj)
 rw[e1,e2] at he
 have:=eo a1 b1 a2 b2 he
 split at c1 <;> split at c2 <;> omega
theorem qQ {c:Int} {sg:List Sg} (h:∀ (j:Nat) s,sg[j]?=some s->s.nm=wrd c j) (l:sg.length <= 26):(sg.map Sg.nm).Nodup:=by
 refine List.pairwise_iff_getElem.mpr fun i j hi hj hlt he=>?_
 rw[List.length_map] at hi hj
 rw[List.getElem_map,List.getElem_map,h i _ (List.getElem?_eq_getElem hi),h j _ (List.getElem?_eq_getElem hj)] at he
 have:=eo (by omega) (by omega) (by omega) (by omega) he
 omega
def PrsI (near off:Int) (D:Addr) (H0:Hp) (i:Nat) (acc:List V) (H':Hp):Prop:=∃ prs:List (Str × Str),prs.length=i/\(∀ (j:Nat) p,prs[j]?=some p->p.1=wrd near (off+(j:Int))/\p.2 ∈ dh)/\L2R (PrIs H') prs acc/\Same H0 H'/\H' D=some (.lst acc)
theorem PrsI.step {near off:Int} {D:Addr} {H0 H':Hp} {i:Nat} {acc:List V} {kd:Str} {t:Addr} (h:PrsI near off D H0 i acc H') (hk:kd ∈ dh) (ht:H' t=none) (hD:H0 D=none):PrsI near off D H0 (i+1) (acc++[.ref t]) (upd (upd H' t (.tup [.str (wrd near (off+(i:Int))),.str kd])) D (.lst (acc++[.ref t]))):=by
 obtain⟨prs,l,e,r,s,d⟩:=h
 have s1:=ac ht (.tup [.str (wrd near (off+(i:Int))),.str kd])
 have d1:=s1 _ _ d
 have nt:t ≠ D:=fun z=>by rw[z,d] at ht;cases ht
 refine⟨prs++[(wrd near (off+(i:Int)),kd)],by rw[List.length_append,l];rfl,fun j p hp=>?_,?_,aN hD (s.trans s1),aa⟩
 ·by_cases hj:j < prs.length
  ·rw[List.getElem?_append_left hj] at hp
   exact e j p hp
  ·rw[List.getElem?_append_right (by omega)] at hp
   have hj0:j - prs.length=0:=by
    rcases Nat.eq_zero_or_pos (j - prs.length) with h | h
    ·exact h
    ·rw[List.getElem?_eq_none (by simp;omega)] at hp;cases hp
   rw[hj0] at hp
   have:j=i:=by omega
   subst this
   cases hp
   exact⟨rfl,hk⟩
 ·have tD:SameT (upd H' t (.tup [.str (wrd near (off+(i:Int))),.str kd])) (upd (upd H' t (.tup [.str (wrd near (off+(i:Int))),.str kd])) D (.lst (acc++[.ref t]))):=aI d1
  exact (r.imp fun _ _ h=>PrIs.same ((au s1).trans tD) h).snoc ⟨t,rfl,tD _ _ aa⟩
section
variable {P:Program} {w:World} {K:W.Frag} {mg:Str->Option Value} {base:Heap} {T:Adr}
theorem qD (X:Tx K mg T):FnOk P w K mg base CX0 2 T.qAU T.d_qAU ["_law_deck_here"] tq:=by
 have G_qBK:=gF (P:=P) (w:=w) (base:=base) X
 refine X.F_qAU.okQ sc_qAU (fun vs H Q E h=>?_) (fun cdv A outer s H vs Q E hr h=>?_)
 ·obtain⟨_,_,rfl,_⟩:=h
  rfl
 obtain⟨d,cs,rfl,hd,l20,l90,q⟩:=h
 refine⟨_,(ag (am (i:=1) sc_qAU.nd rfl (Or.inl rfl) (cL PySem.F.plainAttrs_list PySem.F.slot_list_pop PySem.F.type_list_pop cN (qv 0))) (ag (am (i:=2) sc_qAU.nd rfl (Or.inr rfl) (aV (qaC aw (qaC aw (qaC aw (qaC aw ae)))))) (ag (am (i:=3) sc_qAU.nd rfl (Or.inl rfl) (aV ae)) (ag (bq PassesOwn.never rfl (aX rfl X.z_range (qaB (aj bw af (aj aM (cL PySem.F.plainAttrs_list PySem.F.slot_list_pop PySem.F.type_list_pop cN (qv 0)) af)) ae)) (az (i:=4) sc_qAU.nd rfl (Or.inl rfl)) (ag (am (i:=5) sc_qAU.nd rfl (Or.inr rfl) (cL PySem.F.plainAttrs_list PySem.F.slot_list_pop PySem.F.type_list_pop cN (qv 0))) (ag (am (i:=6) sc_qAU.nd rfl (Or.inr rfl) (ao aS (aV (qaN (qv 5) (qaN (qv 1) ae))) (aj aM (qv 1) af) (fun _ _=>rfl))) (ag (dL (ys:=["_law_kinds", "_law_cell", "_law_near"]) (js:=[2,5,6]) rfl rfl (aX rfl X.z_range (qaB (aj aM (qv 5) af) ae)) (fun _ _ _ _ _=>bE) (fun _ _ _ _ _=>(ak (qaK (aq G_qBK hr rfl X.m_qBK X.F_qBK.kp X.b_qBK .nil aW (qaN (qv 3) (qaN (qv 0) ae))) (qaS (ao (eN (K:=K) rfl) (qv 1) (aj cx (aj aM (aj aO (qv 2) af) af) (qv 0)) (fun _ _=>rfl)) ae)))) (az (i:=7) sc_qAU.nd rfl (Or.inl rfl)) rfl) (ag (dL (ys:=["_law_kinds", "_law_cell", "_law_near"]) (js:=[2,5,6]) rfl rfl (aX rfl X.z_range (qaS (ao aS (aV (qaC af (qaC af (qaC af (qaC af (qaC af ae)))))) (aj aM (aj aO (qv 5) af) af) (fun _ _=>rfl)) ae)) (fun _ _ _ _ _=>bE) (fun _ _ _ _ _=>(ak (qaK (aq G_qBK hr rfl X.m_qBK X.F_qBK.kp X.b_qBK .nil aW (qaN (qv 3) (qaB (aj bw af (qv 0)) ae))) (qaS (ao (eN (K:=K) rfl) (qv 1) (aj cx (aj aM (aj aO (qv 2) af) af) (qv 0)) (fun _ _=>rfl)) ae)))) (az (i:=8) sc_qAU.nd rfl (Or.inl rfl)) rfl) (ai (bU (eB PySem.F.plainAttrs_list PySem.F.slot_list_append PySem.F.type_list_append bg (qv 3) (qaT (ak (qaK (aq G_qBK hr rfl X.m_qBK X.F_qBK.kp X.b_qBK .nil aW (qaN (qv 1) (qaN (qv 4) ae))) (qaK (aY aT rfl X.z_tuple PyProof.Rows.boot_tuple (qaN (qv 7) ae)) (qaK (aY aT rfl X.z_tuple PyProof.Rows.boot_tuple (qaN (qv 8) ae)) ae)))) ae))))))))) (ai (ay (aY aT rfl X.z_tuple PyProof.Rows.boot_tuple (qaN (qv 3) ae)))))))),?_⟩
 dsimp only[cm]
 obtain⟨cs2,w0,rfl⟩:=bW (l:=cs) (by omega)
 rw[List.length_append,List.length_singleton] at l20 l90
 have hd:H d=some (.lst (cs2.map V.int++[.int w0])):=by rw[hd,List.map_append];rfl
 refine⟨_,rfl,.inl ⟨rfl,_,SqL.of hd⟩,d,_,.int w0,rfl,rfl,hd,by simp,?_⟩
 dsimp only
 rw[List.dropLast_concat]
 have k2:Kp [d] H (upd H d (.lst (cs2.map V.int))):=(Kp.refl _ _).upd (by simp)
 have hd2:=aa (H:=H) (a:=d) (o:=.lst (cs2.map V.int))
 generalize upd H d (.lst (cs2.map V.int))=H2 at k2 hd2 ⊢
 refine⟨(by show 4 <= sizeLine;decide),fun ka hka=>?_⟩
 have s3:=ac hka (.lst [V.str "num",V.str "text",V.str "row",V.str "num"])
 have hka3:=aa (H:=H2) (a:=ka) (o:=.lst [V.str "num",V.str "text",V.str "row",V.str "num"])
 have nka:ka ≠ d:=fun z=>by rw[z,hd2] at hka;cases hka
 refine⟨(by show 0 <= sizeLine;decide),fun r hr'=>?_⟩
 have s4:=ac hr' (.lst [])
 have nr:r ≠ d:=fun z=>by rw[z,s3 _ _ hd2] at hr';cases hr'
 have nrk:ka ≠ r:=fun z=>by rw[<- z,hka3] at hr';cases hr'
 have hr5:=aa (H:=upd H2 ka (.lst [V.str "num",V.str "text",V.str "row",V.str "num"])) (a:=r) (o:=.lst [])
 have hka5:=s4 _ _ hka3
 have s35:=s3.trans s4
 have hd5:=s35 _ _ hd2
 have r0:H r=none:=k2.free (s3.free hr') (by simpa using nr)
 have k5:=k2.same s35
 generalize upd (upd H2 ka (.lst [V.str "num",V.str "text",V.str "row",V.str "num"])) r (.lst [])=H5 at k5 hr5 hka5 hd5 ⊢
 obtain⟨cs3,c3,rfl⟩:=bW (l:=cs2) (by omega)
 rw[List.length_append,List.length_singleton] at l20 l90
 have hd5:H5 d=some (.lst (cs3.map V.int++[.int c3])):=by rw[hd5,List.map_append];rfl
 refine⟨_,rfl,.inl ⟨rfl,_,SqL.of hd5⟩,d,_,.int c3,rfl,rfl,hd5,by simp,?_⟩
 rw[List.dropLast_concat]
 have c40:=Int.emod_nonneg c3 (show (3:Int) ≠ 0 by decide)
 have c41:=Int.emod_lt_of_pos c3 (show (0:Int) < 3 by decide)
 refine⟨_,_,rfl,rfl,(by show (0:Int) < 3;decide),_,_,rfl,rfl,_,rfl,by omega,by omega,?_⟩
 have k6:Kp [d] H (upd H5 d (.lst (cs3.map V.int))):=k5.upd (by simp)
 have hd6:=aa (H:=H5) (a:=d) (o:=.lst (cs3.map V.int))
 have hr6:upd H5 d (.lst (cs3.map V.int)) r=some (.lst []):=by rw[av nr];exact hr5
 have hka6:upd H5 d (.lst (cs3.map V.int)) ka=some (.lst [V.str "num",V.str "text",V.str "row",V.str "num"]):=by rw[av nka];exact hka5
 generalize upd H5 d (.lst (cs3.map V.int))=H6 at k6 hd6 hr6 hka6 ⊢
 refine cQ (n:=(1+c3 % 3).toNat) (fun i σ H'=>∃ (ds:List Int) (sg:List Sg) (us:List V) (x5 x6 x7 x8 x9:Option V),σ=[some (.ref d),some (.int w0),some (.ref ka),some (.ref r),x5,x6,x7,x8,x9]/\Kp [d,r] H6 H'/\H' d=some (.lst (ds.map V.int))/\ds.length+i=cs3.length/\H' r=some (.lst us)/\L2R (SgIs H') sg us/\sg.length=i/\(∀ s ∈ sg,SgG s)/\(∀ (j:Nat) s,sg[j]?=some s->s.nm=wrd w0 j))
  ⟨cs3,[],[],none,none,none,none,none,rfl,Kp.refl _ _,hd6,rfl,hr6,.nil,rfl,(fun s hs=>nomatch hs),(fun j s h=>by simp at h)⟩ ?_ ?_
 ·rintro i σ H' hi ⟨ds,sg,us,x5,x6,x7,x8,x9,rfl,kp,hd',ld,hr2,hus,lsg,gd,nms⟩
  have hi6:i < 3:=by omega
  have lus:=hus.len
  obtain⟨ds',c,rfl⟩:=bW (l:=ds) (by simp at l20;omega)
  rw[List.length_append,List.length_singleton] at ld
  have hd':H' d=some (.lst (ds'.map V.int++[.int c])):=by rw[hd',List.map_append];rfl
  refine⟨_,rfl,.inl ⟨rfl,_,SqL.of hd'⟩,d,_,.int c,rfl,rfl,hd',by simp,?_⟩
  dsimp only
  rw[List.dropLast_concat]
  have T1:SameT H' (upd H' d (.lst (ds'.map V.int))):=aI hd'
  have kp1:Kp [d,r] H6 (upd H' d (.lst (ds'.map V.int))):=kp.upd (by simp)
  have hd1:=aa (H:=H') (a:=d) (o:=.lst (ds'.map V.int))
  have hr1:upd H' d (.lst (ds'.map V.int)) r=some (.lst us):=by rw[av nr];exact hr2
  have hus1:L2R (SgIs (upd H' d (.lst (ds'.map V.int)))) sg us:=hus.imp fun _ _ h=>SgIs.same T1 h
  generalize upd H' d (.lst (ds'.map V.int))=G1 at kp1 hd1 hr1 hus1 ⊢
  have hka1:=kp1 _ _ (by simp;exact⟨nka,nrk⟩) hka6
  refine⟨_,rfl,_,rfl,(by show 2 <= sizeLine;decide),fun a2 h2=>?_⟩
  have s2:=ac h2 (.lst [.int c,.int w0])
  obtain⟨near,hnear⟩ : ∃ near:Int,atI [V.int c,V.int w0] (w0 % 2)=some (.int near):=by
   have:w0 % 2=0\/w0 % 2=1:=by omega
   rcases this with e | e <;> rw[e] <;> exact⟨_,rfl⟩
  refine⟨_,rfl,_,_,rfl,rfl,(by show (0:Int) < 2;decide),a2,_,_,.int near,rfl,rfl,SqL.of aa,hnear,?_⟩
  have hka2:=s2 _ _ hka1
  generalize upd G1 a2 (.lst [.int c,.int w0])=G2 at s2 hka2 ⊢
  have c30:=Int.emod_nonneg c (show (3:Int) ≠ 0 by decide)
  have c31:=Int.emod_lt_of_pos c (show (0:Int) < 3 by decide)
  refine⟨_,rfl,_,_,rfl,rfl,(by show (0:Int) < 3;decide),_,rfl,by omega,by omega,fun D hD=>?_⟩
  refine cr (fun j acc G=>PrsI near 0 D G2 j acc G) (Nat.lt_of_le_of_lt (show (c % 3).toNat <= 1000 by omega) (by decide)) ⟨[],rfl,(fun j p h=>by simp at h),.nil,ac hD _,aa⟩ (fun j acc G ⟨prs,l,_,r,_,d⟩=>⟨d,by rw[r.len,l]⟩) ?_ ?_
  ·rintro j m' acc G hj I hm'
   have I':=I
   obtain⟨prs,l,e,rr,sm,dd⟩:=I'
   obtain⟨kd,hkd,mk⟩:=oA (m:=c / 27 % 4 - (0+(j:Int))) (by omega) (by omega)
   refine⟨_,rfl,_,rfl,near,_,rfl,_,rfl,_,rfl,_,_,rfl,rfl,⟨by decide,by decide⟩,_,_,rfl,rfl,(by show (0:Int) < 4;decide),_,rfl,_,_,rfl,rfl,ka,_,_,.str kd,rfl,rfl,SqL.of (sm _ _ hka2),hkd,(by show 2 <= sizeLine;decide),fun t ht=>?_⟩
   exact eF hj hm' (ac ht _ _ _ dd) (I.step mk ht hD)
  rintro dacc G3 ⟨dn,ldn,edn,rdn,s3',hD3⟩
  have ldn2:dn.length <= 2:=by omega
  have s23:=s2.trans s3'
  refine⟨(by show 5 <= sizeLine;decide),fun a4 h4=>?_⟩
  have s4':=ac h4 (.lst [.int 1,.int 2,.int 2,.int 1,.int 0])
  obtain⟨u,hu,u0,u2⟩ : ∃ u:Int,atI [V.int 1,V.int 2,V.int 2,V.int 1,V.int 0] (c / 3 % 5)=some (.int u)/\0 <= u/\u <= 2:=by
   have:c / 3 % 5=0\/c / 3 % 5=1\/c / 3 % 5=2\/c / 3 % 5=3\/c / 3 % 5=4:=by omega
   rcases this with e | e | e | e | e <;> rw[e] <;> exact⟨_,rfl,by decide,by decide⟩
  refine⟨_,rfl,_,_,rfl,rfl,⟨by decide,by decide⟩,_,_,rfl,rfl,(by show (0:Int) < 5;decide),a4,_,_,.int u,rfl,rfl,SqL.of aa,hu,?_⟩
  have s24:=s23.trans s4'
  have hka4:=(s3'.trans s4') _ _ hka2
  have hD4:=s4' _ _ hD3
  have rdn4:L2R (PrIs (upd G3 a4 (.lst [.int 1,.int 2,.int 2,.int 1,.int 0]))) dn dacc:=rdn.imp fun _ _ h=>PrIs.same (au s4') h
  generalize upd G3 a4 (.lst [.int 1,.int 2,.int 2,.int 1,.int 0])=G4 at s24 hka4 hD4 rdn4 ⊢
  refine⟨_,rfl,by omega,by omega,fun D2 hD2=>?_⟩
  refine cr (fun j acc G=>PrsI near 2 D2 G4 j acc G) (Nat.lt_of_le_of_lt (show u.toNat <= 1000 by omega) (by decide)) ⟨[],rfl,(fun j p h=>by simp at h),.nil,ac hD2 _,aa⟩ (fun j acc G ⟨prs,l,_,r,_,d⟩=>⟨d,by rw[r.len,l]⟩) ?_ ?_
  ·rintro j m' acc G hj I hm'
   have I':=I
   obtain⟨prs,l,e,rr,sm,dd⟩:=I'
   obtain⟨kd,hkd,mk⟩:=oA (m:=c / 108 % 4 - (0+(j:Int))) (by omega) (by omega)
   have ej:(2:Int)+(0+(j:Int))=2+(j:Int):=by omega
   refine⟨_,rfl,_,rfl,_,_,rfl,rfl,near,_,rfl,_,rfl,_,rfl,_,_,rfl,rfl,⟨by decide,by decide⟩,_,_,rfl,rfl,(by show (0:Int) < 4;decide),_,rfl,_,_,rfl,rfl,ka,_,_,.str kd,rfl,rfl,SqL.of (sm _ _ hka4),hkd,(by show 2 <= sizeLine;decide),fun t ht=>?_⟩
   rw[ej]
   exact eF hj hm' (ac ht _ _ _ dd) (I.step mk ht hD2)
  rintro uacc G5 ⟨up,lup,eup,rup,s5',hD5⟩
  have lup2:up.length <= 2:=by omega
  have hD5':=s5' _ _ hD4
  have rdn5:L2R (PrIs G5) dn dacc:=rdn4.imp fun _ _ h=>PrIs.same (au s5') h
  have sA:=s24.trans s5'
  have hrA:=sA _ _ hr1
  have hdA:=sA _ _ hd1
  refine⟨_,rfl,.inl ⟨rfl,_,SqL.of hrA⟩,_,rfl,_,rfl,w0,_,rfl,_,rfl,D,dacc,rfl,.inl ⟨SqL.of hD5',fun t1 ht1=>?_⟩⟩
  have z1:=ac ht1 (.tup dacc)
  refine⟨_,rfl,D2,uacc,rfl,.inl ⟨SqL.of (z1 _ _ hD5),fun t2 ht2=>?_⟩⟩
  have z2:=ac ht2 (.tup uacc)
  refine⟨(by show 3 <= sizeLine;decide),fun t3 ht3=>?_⟩
  have e0:(0+(i:Int))=(i:Int):=by omega
  rw[e0]
  have z3:=ac ht3 (.tup [.str (wrd w0 (i:Int)),.ref t1,.ref t2])
  have zz:=z1.trans (z2.trans z3)
  have hrZ:=zz _ _ hrA
  refine⟨r,us,_,rfl,rfl,hrZ,bM (by omega),?_⟩
  have g1:=(z2.trans z3) _ _ (aa (H:=G5) (a:=t1) (o:=.tup dacc))
  have g2:=z3 _ _ (aa (H:=upd G5 t1 (.tup dacc)) (a:=t2) (o:=.tup uacc))
  have g3:=aa (H:=upd (upd G5 t1 (.tup dacc)) t2 (.tup uacc)) (a:=t3) (o:=.tup [.str (wrd w0 (i:Int)),.ref t1,.ref t2])
  generalize upd (upd (upd G5 t1 (.tup dacc)) t2 (.tup uacc)) t3 (.tup [.str (wrd w0 (i:Int)),.ref t1,.ref t2])=G6 at zz hrZ g1 g2 g3 ⊢
  have TL:SameT G6 (upd G6 r (.lst (us++[.ref t3]))):=aI hrZ
  have TA:=(au (sA.trans zz)).trans TL
  have TB:=(au zz).trans TL
  refine⟨ds',sg++[⟨wrd w0 (i:Int),dn,up⟩],us++[.ref t3],_,_,_,_,_,rfl,(kp1.same (sA.trans zz)).upd (by simp),by rw[av nr.symm];exact zz _ _ hdA,by omega,aa,?_,by rw[List.length_append,lsg];rfl,?_,?_⟩
  ·exact (hus1.imp fun _ _ h=>SgIs.same TA h).snoc ⟨t3,t1,t2,dacc,uacc,rfl,TL _ _ g3,TL _ _ g1,rdn5.imp fun _ _ h=>PrIs.same TB h,TL _ _ g2,rup.imp fun _ _ h=>PrIs.same TB h⟩
  ·intro s hs
   rcases List.mem_append.mp hs with h | h
   ·exact gd s h
   ·rw[List.mem_singleton.mp h]
    refine⟨fun p hp=>?_,qu (c:=near) (fun j p hp=>by have:=(edn j p hp).1;rw[this,show (0:Int)+(j:Int)=(j:Int) by omega]) (fun j p hp=>(eup j p hp).1) ldn2 lup2,ldn2,lup2,rG _ _⟩
    rcases List.mem_append.mp hp with h | h
    ·obtain⟨j,hj⟩:=List.getElem?_of_mem h
     obtain⟨h1,h2⟩:=edn j p hj
     exact⟨by rw[h1];exact dE _ _,h2⟩
    ·obtain⟨j,hj⟩:=List.getElem?_of_mem h
     obtain⟨h1,h2⟩:=eup j p hj
     exact⟨by rw[h1];exact dE _ _,h2⟩
  ·intro j s hs
   by_cases hj:j < sg.length
   ·rw[List.getElem?_append_left hj] at hs
    exact nms j s hs
   ·rw[List.getElem?_append_right (by omega)] at hs
    have hj0:j - sg.length=0:=by
     rcases Nat.eq_zero_or_pos (j - sg.length) with h | h
     ·exact h
     ·rw[List.getElem?_eq_none (by simp;omega)] at hs;cases hs
    rw[hj0] at hs
    cases hs
    have:j=i:=by omega
    subst this
    rfl
 ·rintro σ H' ⟨ds,sg,us,x5,x6,x7,x8,x9,rfl,kp,hd',ld,hr2,hus,lsg,gd,nms⟩
  have lus:=hus.len
  refine⟨_,rfl,r,_,rfl,.inl ⟨SqL.of hr2,fun a ha=>?_⟩⟩
  have s7:=ac ha (.tup us)
  refine q a us sg ds _ (fun b o n h=>?_) (s7 _ _ hd') (by simp;omega) (by omega) aa (hus.imp fun _ _ h=>SgIs.same (au s7) h) ⟨fun s hs=>by obtain⟨j,hj⟩:=List.getElem?_of_mem hs;rw[nms j s hj];exact dE _ _,gd,qQ nms (by omega),by omega,by omega⟩
  have nb:b ≠ r:=fun z=>by rw[z,r0] at h;cases h
  exact s7 _ _ (kp b o (by simp;exact⟨by simpa using n,nb⟩) (k6 b o n h))
end
end K41
namespace K41
open PySem L2 TR FT SP
open TM
noncomputable def rk (N k j b:Nat):Int:=100 * (j:Int)+(if k=0 then 99 * (b:Int) else 2 * (if j=0 then (k:Int) else (N:Int) - k)+b)
noncomputable def prL (N k b:Nat):Nat->List (Str × Str)->List Vl
 | _,[]=>[]
 | j,p::r=>((k:Int),p.1,p.2,rk N k j b,(b:Int))::prL N k b (j+1) r
theorem rQ (N k b:Nat):∀ (ps:List (Str × Str)) (j i:Nat) (p:Str × Str),ps[i]?=some p->(prL N k b j ps)[i]?=some ((k:Int),p.1,p.2,rk N k (j+i) b,(b:Int))
 | [],j,i,p,h=>by simp at h
 | x::r,j,0,p,h=>by
  simp at h
  subst h
  rfl
 | x::r,j,i+1,p,h=>by
  have:=rQ N k b r (j+1) i p (by simpa using h)
  rw[prL,List.getElem?_cons_succ,this,show j+1+i=j+(i+1) by omega]
theorem gB (N k b:Nat):∀ (ps:List (Str × Str)) (j:Nat),(prL N k b j ps).length=ps.length
 | [],j=>rfl
 | x::r,j=>by rw[prL,List.length_cons,List.length_cons,gB N k b r (j+1)]
theorem eW (N k b:Nat):∀ (ps:List (Str × Str)) (j:Nat) (e:Vl),e ∈ prL N k b j ps->∃ (i:Nat) (p:Str × Str),ps[i]?=some p/\e=((k:Int),p.1,p.2,rk N k (j+i) b,(b:Int))
 | [],j,e,h=>nomatch h
 | x::r,j,e,h=>by
  rw[prL] at h
  rcases List.mem_cons.mp h with rfl | h
  ·exact⟨0,x,rfl,rfl⟩
  ·obtain⟨i,p,h1,h2⟩:=eW N k b r (j+1) e h
   exact⟨i+1,p,by simpa using h1,by rw[h2,show j+1+i=j+(i+1) by omega]⟩
theorem jf (N k b:Nat):∀ (ps:List (Str × Str)) (j:Nat),(prL N k b j ps).map jo=ps.map fun p=>((k:Int),p.1)
 | [],j=>rfl
 | x::r,j=>by
  rw[prL,List.map_cons,List.map_cons,jf N k b r (j+1)]
  rfl
noncomputable def dD (N k:Nat) (s:Sg) (b:Nat):List Vl:=prL N k b 0 (if b=0 then s.dn else s.up)
noncomputable def vlF (N:Nat) (k:Nat):List Sg->List Vl
 | []=>[]
 | s::r=>dD N k s 0++dD N k s 1++vlF N (k+1) r
theorem jG (N:Nat):∀ (ss:List Sg) (k:Nat) (s:Sg),vlF N k (ss++[s])=vlF N k ss++(dD N (k+ss.length) s 0++dD N (k+ss.length) s 1)
 | [],k,s=>by simp[vlF]
 | x::ss,k,s=>by
  rw[List.cons_append,vlF,vlF,jG N ss (k+1) s,List.append_assoc,List.append_assoc,List.append_assoc,List.length_cons]
  have e:k+1+ss.length=k+(ss.length+1):=by omega
  rw[e]
structure AtS (sg:List Sg) (at_:List Nat) (ss:List Sg):Prop where
 l:ss.length=at_.length
 e:∀ (i:Nat) (n:Nat),at_[i]?=some n->∃ s,sg[n]?=some s/\ss[i]?=some s
noncomputable def atV (at_:List Nat):List V:=at_.map fun (n:Nat)=>V.int (n:Int)
def pU:Sp:=fun vs H Q _=>∃ (a l:Addr) (us:List V) (sg ss:List Sg) (at_:List Nat),vs=[.ref a,.ref l]/\H a=some (.tup us)/\L2R (SgIs H) sg us/\H l=some (.tup (atV at_))/\AtS sg at_ ss/\at_.length <= 10/\(∀ s ∈ sg,SgG s) /\
 ∀ (D:Addr) (xs:List V) (H':Hp),Same H H'->H D=none->H' D=some (.lst xs)->L2R (VlIs H') (vlF at_.length 0 ss) xs->Q (.ref D) H'
section
variable {P:Program} {w:World} {K:W.Frag} {mg:Str->Option Value} {base:Heap} {T:Adr}
theorem nY (X:Tx K mg T):FnOk P w K mg base CX0 1 T.qAO T.d_qAO ["_law_signs_here", "_law_at"] pU:=by
 refine X.F_qAO.okQ sc_qAO (fun vs H Q E h=>?_) (fun cdv A outer s H vs Q E hr h=>?_)
 ·obtain⟨_,_,_,_,_,_,rfl,_⟩:=h
  rfl
 obtain⟨a,l,us,sg,ss,at_,rfl,ha,hus,hl,ats,l10,gd,q⟩:=h
 refine⟨_,(ag (am (i:=2) sc_qAO.nd rfl (Or.inl rfl) (aV ae)) (ag (bq PassesOwn.never rfl (aX rfl X.z_range (qaK (ax call_len_seq rfl X.z_len PySem.boot_len (qaN (qv 1) ae)) ae)) (az (i:=3) sc_qAO.nd rfl (Or.inl rfl)) (ai (bq PassesOwn.never rfl (aX rfl X.z_range (qaC af ae)) (az (i:=4) sc_qAO.nd rfl (Or.inl rfl)) (ag (am (i:=5) sc_qAO.nd rfl (Or.inl rfl) (ao ar (ao ar (qv 0) (ao ar (qv 1) (qv 3) (fun _ _=>rfl)) (fun _ _=>rfl)) (aj bw af (qv 4)) (fun _ _=>rfl))) (ai (bq PassesOwn.never rfl (aX rfl X.z_range (qaK (ax call_len_seq rfl X.z_len PySem.boot_len (qaN (qv 5) ae)) ae)) (az (i:=6) sc_qAO.nd rfl (Or.inl rfl)) (ag (am (i:=7) sc_qAO.nd rfl (Or.inl rfl) (aj bw (aj df af (qv 6)) (ao aS (aV (qaB (aj bw (aj df af (ao aS (aV (qaN (qv 3) (qaB (aj cx (ax call_len_seq rfl X.z_len PySem.boot_len (qaN (qv 1) ae)) (qv 3)) ae))) (qv 6) (fun _ _=>rfl))) (qv 4)) (qaB (aj df af (qv 4)) ae))) (aY iM rfl X.z_int PyProof.Rows.boot_int (qaM (cS bL (qv 3) af (aP _)) ae)) (fun _ _=>rfl)))) (ai (bU (eB PySem.F.plainAttrs_list PySem.F.slot_list_append PySem.F.type_list_append bg (qv 2) (qaT (ak (qaN (qv 3) (qaS (ao ar (ao ar (qv 5) (qv 6) (fun _ _=>rfl)) af (fun _ _=>rfl)) (qaS (ao ar (ao ar (qv 5) (qv 6) (fun _ _=>rfl)) af (fun _ _=>rfl)) (qaN (qv 7) (qaN (qv 4) ae)))))) ae))))))))))) (ai (ay (qv 2))))),?_⟩
 dsimp only[cm]
 have lss:=ats.l
 refine⟨(by show 0 <= sizeLine;decide),fun D hD=>?_⟩
 have s0:=ac hD (.lst [])
 have lat:(atV at_).length=at_.length:=by unfold atV;rw[List.length_map]
 refine⟨_,rfl,l,_,rfl,.inr (SqT.of (s0 _ _ hl)),_,rfl,by omega,by omega,?_⟩
 refine cQ (n:=((atV at_).length:Int).toNat) (fun i σ H'=>∃ (xs:List V) (x3 x4 x5 x6 x7:Option V),σ=[some (.ref a),some (.ref l),some (.ref D),x3,x4,x5,x6,x7]/\Same H H'/\H' D=some (.lst xs)/\L2R (VlIs H') (vlF at_.length 0 (ss.take i)) xs/\xs.length <= 4 * i) ⟨[],none,none,none,none,none,rfl,s0,aa,.nil,Nat.zero_le _⟩ ?_ ?_
 ·rintro i σ H' hi ⟨xs,x3,x4,x5,x6,x7,rfl,sm,hD',hxs,lxs⟩
  have hi:i < at_.length:=by omega
  obtain⟨n,hn⟩ : ∃ n,at_[i]?=some n:=⟨_,List.getElem?_eq_getElem hi⟩
  obtain⟨s,hs,hss⟩:=ats.e i n hn
  have gs:=gd s (List.mem_of_getElem? hs)
  have ltk:(ss.take i).length=i:=by rw[List.length_take];omega
  have e0:(0+(i:Int))=(i:Int):=by omega
  obtain⟨v,hv,hsv⟩:=cF hus hs
  obtain⟨p,da,ua,dus,uus,rfl,hp,hda,hdn,hua,hup⟩:=hsv
  refine⟨_,rfl,(by decide),(by decide),?_⟩
  refine cQ (n:=2) (fun b σ H2=>∃ (ys:List V) (y4 y5 y6 y7:Option V),σ=[some (.ref a),some (.ref l),some (.ref D),some (.int (i:Int)),y4,y5,y6,y7]/\Same H H2/\H2 D=some (.lst ys)/\L2R (VlIs H2) (vlF at_.length 0 (ss.take i)++(List.range b).flatMap (dD at_.length i s)) ys/\ys.length <= 4 * i+2 * b/\b <= 2) ⟨xs,_,_,_,_,by rw[e0];rfl,sm,hD',by simpa using hxs,by omega,by decide⟩ ?_ ?_
  ·rintro b σ H2 hb ⟨ys,y4,y5,y6,y7,rfl,sm2,hD2,hys,lys,b2⟩
   have hp2:=sm2 _ _ hp
   have eb:(0+(b:Int))=(b:Int):=by omega
   obtain⟨ra,rus,rps,hra,hrp,hat,lrp,erp⟩ : ∃ (ra:Addr) (rus:List V) (rps:List (Str × Str)),H ra=some (.tup rus)/\L2R (PrIs H) rps rus/\atI [V.str s.nm,V.ref da,V.ref ua] (1+(0+(b:Int)))=some (.ref ra)/\rps.length <= 2/\dD at_.length i s b=prL at_.length i b 0 rps:=by
    have:b=0\/b=1:=by omega
    rcases this with rfl | rfl
    ·exact⟨da,dus,s.dn,hda,hdn,rfl,gs.ld,rfl⟩
    ·exact⟨ua,uus,s.up,hua,hup,rfl,gs.lu,rfl⟩
   have lr:=hrp.len
   refine⟨_,rfl,_,rfl,_,rfl,l,_,_,.int (n:Int),rfl,rfl,SqT.of (sm2 _ _ hl),bt (by unfold atV;rw[List.getElem?_map,hn];rfl),a,_,_,.ref p,rfl,rfl,SqT.of (sm2 _ _ ha),bt hv,_,rfl,_,_,rfl,rfl,p,_,_,.ref ra,rfl,rfl,SqT.of hp2,hat,?_⟩
   refine⟨_,rfl,ra,_,rfl,.inr (SqT.of (sm2 _ _ hra)),_,rfl,by omega,by omega,?_⟩
   have lpl:=gB at_.length i b rps 0
   refine cQ (n:=(rus.length:Int).toNat) (fun j σ H3=>∃ (zs:List V) (z6 z7:Option V),σ=[some (.ref a),some (.ref l),some (.ref D),some (.int (i:Int)),some (.int (0+(b:Int))),some (.ref ra),z6,z7]/\Same H H3/\H3 D=some (.lst zs)/\L2R (VlIs H3) (vlF at_.length 0 (ss.take i)++(List.range b).flatMap (dD at_.length i s)++(prL at_.length i b 0 rps).take j) zs/\zs.length <= 4 * i+2 * b+j) ⟨ys,_,_,rfl,sm2,hD2,by simpa using hys,by omega⟩ ?_ ?_
   ·rintro j σ H3 hj ⟨zs,z6,z7,rfl,sm3,hD3,hzs,lzs⟩
    have hjl:j < rps.length:=by omega
    obtain⟨⟨nm,kd⟩,hnk⟩:=aH hjl
    obtain⟨v3,hv3,q3,rfl,hq3⟩:=cF hrp hnk
    have ej:(0+(j:Int))=(j:Int):=by omega
    have hj2:j=0\/j=1:=by omega
    have hla3:=sm3 _ _ hl
    obtain⟨x,hx,ex⟩ : ∃ x:Int,atI [V.int (i:Int),V.int (((atV at_).length:Int) - (i:Int))] (0+(j:Int))=some (.int x)/\x=if j=0 then (i:Int) else (at_.length:Int) - i:=by
     rw[lat]
     rcases hj2 with rfl | rfl
     ·exact⟨_,rfl,rfl⟩
     ·exact⟨_,rfl,rfl⟩
    refine⟨_,rfl,_,_,rfl,rfl,.inl ⟨by decide,by decide⟩,_,rfl,_,rfl,l,_,rfl,.inr (SqT.of hla3),_,rfl,_,_,rfl,rfl,(by show 2 <= sizeLine;decide),fun l1 h1=>?_⟩
    have u1:=ac h1 (.lst [V.int (i:Int),V.int (((atV at_).length:Int) - (i:Int))])
    refine⟨_,rfl,l1,_,_,.int x,rfl,rfl,SqL.of aa,hx,_,_,rfl,rfl,.inl ⟨by decide,by decide⟩,_,rfl,_,_,rfl,rfl,_,rfl,_,_,rfl,rfl,.inl ⟨by decide,by decide⟩,(by show 2 <= sizeLine;decide),fun l2 h2=>?_⟩
    have u2:=ac h2 (.lst [V.int (2 * x+(0+(b:Int))),V.int (99 * (0+(b:Int)))])
    obtain⟨y,hy,ey⟩ : ∃ y:Int,atI [V.int (2 * x+(0+(b:Int))),V.int (99 * (0+(b:Int)))] (if decide (V.int (i:Int)=V.int 0)=true then 1 else 0)=some (.int y)/\y=if i=0 then 99 * (b:Int) else 2 * x+b:=by
     rw[eb]
     by_cases h:i=0
     ·subst h
      rw[decide_eq_true (show V.int ((0:Nat):Int)=V.int 0 from rfl),if_pos rfl]
      exact⟨_,rfl,by rw[if_pos rfl]⟩
     ·rw[decide_eq_false (fun z=>h (by have:=V.int.inj z;omega)),if_neg (by simp)]
      exact⟨_,rfl,by rw[if_neg h]⟩
    refine⟨_,rfl,rfl,.inr ⟨_,rfl,l2,_,_,.int y,rfl,rfl,SqL.of aa,hy,_,_,rfl,rfl,?_⟩⟩
    have erk:100 * (0+(j:Int))+y=rk at_.length i j b:=by
     unfold rk
     rw[ej,ey,ex]
    have u12:=u1.trans u2
    have hD4:=u12 _ _ hD3
    have hra4:=u12 _ _ (sm3 _ _ hra)
    have hq4:=u12 _ _ (sm3 _ _ hq3)
    have sm4:=sm3.trans u12
    have hzs4:=hzs.imp fun _ _ h=>VlIs.same (au u12) h
    dsimp only
    rw[erk]
    generalize upd (upd H3 l1 (.lst [V.int (i:Int),V.int (((atV at_).length:Int) - (i:Int))])) l2 (.lst [V.int (2 * x+(0+(b:Int))),V.int (99 * (0+(b:Int)))])=H4 at hD4 hra4 hq4 sm4 hzs4 ⊢
    have hat3:atI rus (0+(j:Int))=some (.ref q3):=by rw[ej];exact bt hv3
    refine⟨_,rfl,.inl ⟨rfl,_,SqL.of hD4⟩,_,rfl,_,rfl,_,rfl,ra,_,_,.ref q3,rfl,rfl,SqT.of hra4,hat3,q3,_,0,.str nm,rfl,rfl,SqT.of hq4,rfl,_,rfl,_,rfl,ra,_,_,.ref q3,rfl,rfl,SqT.of hra4,hat3,q3,_,1,.str kd,rfl,rfl,SqT.of hq4,rfl,_,rfl,_,rfl,(by show 5 <= sizeLine;decide),fun t ht=>?_⟩
    have s4:=ac ht (.tup [.int (i:Int),.str nm,.str kd,.int (rk at_.length i j b),.int (0+(b:Int))])
    have hD5:=s4 _ _ hD4
    refine⟨D,zs,_,rfl,rfl,hD5,bM (by omega),zs++[.ref t],_,_,rfl,aN hD (sm4.trans s4),aa,?_,by rw[List.length_append,List.length_singleton];omega⟩
    have hpe:=rQ at_.length i b rps 0 j _ hnk
    rw[aJ hpe,<- List.append_assoc]
    have TL:=aI (ys:=zs++[.ref t]) hD5
    refine (hzs4.imp fun _ _ h=>VlIs.same ((au s4).trans TL) h).snoc ⟨t,rfl,TL _ _ ?_⟩
    rw[aa,eb,Nat.zero_add]
   ·rintro σ H3 ⟨zs,z6,z7,rfl,sm3,hD3,hzs,lzs⟩
    rw[show (prL at_.length i b 0 rps).take (rus.length:Int).toNat=prL at_.length i b 0 rps from List.take_of_length_le (by omega)] at hzs
    refine⟨zs,_,_,_,_,rfl,sm3,hD3,?_,by omega,by omega⟩
    rw[List.range_succ,List.flatMap_append,<- List.append_assoc]
    have e1:[b].flatMap (dD at_.length i s)=prL at_.length i b 0 rps:=by rw[<- erp];simp
    rw[e1]
    exact hzs
  ·rintro σ H2 ⟨ys,y4,y5,y6,y7,rfl,sm2,hD2,hys,lys,b2⟩
   refine⟨ys,_,_,_,_,_,rfl,sm2,hD2,?_,by omega⟩
   rw[aJ hss,jG,ltk,Nat.zero_add]
   have e:(List.range 2).flatMap (dD at_.length i s)=dD at_.length i s 0++dD at_.length i s 1:=by
    show (List.range 2).flatMap _=_
    rw[show List.range 2=[0,1] from rfl]
    simp
   rw[<- e]
   exact hys
 ·rintro σ H' ⟨xs,x3,x4,x5,x6,x7,rfl,sm,hD',hxs,lxs⟩
  rw[List.take_of_length_le (by omega)] at hxs
  exact⟨_,rfl,q D xs H' sm hD hD' hxs⟩
end
end K41
namespace K41
open PySem L2 TR FT SP
open TM
noncomputable def dj (k:Nat):List Sg->List (Int × Str)
 | []=>[]
 | s::r=>(if k=0 then s.up else s.dn).map (fun p=>((k:Int),p.1))++dj (k+1) r
theorem fu:∀ (ss:List Sg) (k:Nat),(∀ s ∈ ss,SgG s)->(dj k ss).length <= 2 * ss.length
 | [],k,_=>by rw[dj];simp
 | s::r,k,h=>by
  rw[dj,List.length_append,List.length_map,List.length_cons]
  have h1:=h s (by simp)
  have h2:=fu r (k+1) fun x hx=>h x (by simp[hx])
  have l1:=h1.ld
  have l2:=h1.lu
  split <;> omega
theorem gL {α:Type} {R:α->V->Prop}:∀ {as:List α} {vs:List V} (k:Nat),L2R R as vs->L2R R (as.drop k) (vs.drop k)
 | _,_,_,.nil=>by rw[List.drop_nil,List.drop_nil];exact .nil
 | _,_,0,.cons x y=>.cons x y
 | _,_,k+1,.cons x y=>by rw[List.drop_succ_cons,List.drop_succ_cons];exact gL k y
theorem eM {α:Type} {R:α->V->Prop}:∀ {as:List α} {vs:List V} (k:Nat),L2R R as vs->L2R R (as.take k) (vs.take k)
 | _,_,_,.nil=>by rw[List.take_nil,List.take_nil];exact .nil
 | _,_,0,.cons x y=>.nil
 | _,_,k+1,.cons x y=>by rw[List.take_succ_cons,List.take_succ_cons];exact .cons x (eM k y)
theorem AtS.mem {sg:List Sg} {at_:List Nat} {ss:List Sg} (h:AtS sg at_ ss):∀ s ∈ ss,s ∈ sg:=fun s hs=>by
 obtain⟨i,hi⟩:=List.getElem?_of_mem hs
 have hl:=aD hi
 obtain⟨n,hn⟩ : ∃ n,at_[i]?=some n:=⟨_,List.getElem?_eq_getElem (by have:=h.l;omega)⟩
 obtain⟨s',h1,h2⟩:=h.e i n hn
 rw[hi] at h2
 cases h2
 exact List.mem_of_getElem? h1
noncomputable def jw (e:Vl):Bool:=decide (V.bl (decide (V.int e.1=V.int 0))=V.bl (decide (V.int e.2.2.2.2=V.int 1)))
noncomputable def mj (N:Nat) (ss:List Sg):List (Int × Str):=((vlF N 0 ss).filter jw).map jo
theorem ph (k:Int) (n kd:Str) (r b:Int):jw (k,n,kd,r,b)=decide (k=0 ↔ b=1):=by
 unfold jw
 refine decide_eq_decide.mpr ⟨fun h=>?_,fun h=>?_⟩
 ·have:=V.bl.inj h
  have e:=decide_eq_decide.mp this
  exact⟨fun z=>V.int.inj (e.mp (by show V.int k=V.int 0;rw[z])),fun z=>V.int.inj (e.mpr (by show V.int b=V.int 1;rw[z]))⟩
 ·show V.bl (decide (V.int k=V.int 0))=V.bl (decide (V.int b=V.int 1))
  congr 1
  exact decide_eq_decide.mpr ⟨fun z=>by rw[h.mp (V.int.inj z)],fun z=>by rw[h.mpr (V.int.inj z)]⟩
theorem jJ {N k:Nat} {s:Sg} {b:Nat} (h:((k:Int)=0 ↔ (b:Int)=1)):(dD N k s b).filter jw=dD N k s b:=List.filter_eq_self.mpr fun e he=>by
 obtain⟨i,p,_,rfl⟩:=eW _ _ _ _ _ _ he
 rw[ph,decide_eq_true h]
theorem nn {N k:Nat} {s:Sg} {b:Nat} (h:¬ ((k:Int)=0 ↔ (b:Int)=1)):(dD N k s b).filter jw=[]:=List.filter_eq_nil_iff.mpr fun e he=>by
 obtain⟨i,p,_,rfl⟩:=eW _ _ _ _ _ _ he
 rw[ph,decide_eq_false h]
 simp
theorem pf (N:Nat):∀ (ss:List Sg) (k:Nat),((vlF N k ss).filter jw).map jo=dj k ss
 | [],k=>by rw[vlF,dj];rfl
 | s::r,k=>by
  rw[vlF,dj,List.filter_append,List.filter_append,List.map_append,pf N r (k+1)]
  by_cases hk:k=0
  ·subst hk
   rw[nn (by decide),jJ (by decide),if_pos rfl,List.nil_append]
   congr 1
   exact jf _ _ _ _ _
  ·rw[jJ (by omega),nn (by omega),if_neg hk,List.append_nil]
   congr 1
   exact jf _ _ _ _ _
theorem sy (N:Nat) (ss:List Sg):mj N ss=dj 0 ss:=pf N ss 0
theorem mI (N:Nat):∀ (ss:List Sg) (k:Nat),∀ e ∈ vlF N k ss,∃ (i:Nat) (s:Sg),ss[i]?=some s/\e.1=((k+i:Nat):Int)/\∃ p ∈ s.dn++s.up,e.2.1=p.1/\e.2.2.1=p.2
 | [],k,e,h=>by rw[vlF] at h;cases h
 | s::r,k,e,h=>by
  rw[vlF] at h
  rcases List.mem_append.mp h with h | h
  ·refine⟨0,s,rfl,?_⟩
   rcases List.mem_append.mp h with h | h
   ·obtain⟨i,p,hp,rfl⟩:=eW _ _ _ _ _ _ h
    exact⟨rfl,p,List.mem_append.mpr (.inl (List.mem_of_getElem? hp)),rfl,rfl⟩
   ·obtain⟨i,p,hp,rfl⟩:=eW _ _ _ _ _ _ h
    exact⟨rfl,p,List.mem_append.mpr (.inr (List.mem_of_getElem? hp)),rfl,rfl⟩
  ·obtain⟨i,s',h1,h2,h3⟩:=mI N r (k+1) e h
   exact⟨i+1,s',by simpa using h1,by rw[h2];omega,h3⟩
def yD (vl:List Vl) (q:Ru):Prop:=depth q.tm <= 12/\bC q.tm <= 100/\∃ e ∈ vl,jo e=keyR q/\∀ p ∈ named q.tm,∃ e' ∈ vl,e'.2.2.2.1 < e.2.2.2.1/\jo e'=p
structure FmG (f:Fm) (ss:List Sg):Prop where
 nm:ss.map Sg.nm=f.hd::f.br
 ru:∃ t,f.ru.map keyR=(dj 0 ss).drop t++(dj 0 ss).take t
 dp:∀ r ∈ f.ru,yD (vlF ss.length 0 ss) r
def vT:Sp:=fun vs H Q _=>∃ (a l d:Addr) (us:List V) (sg ss:List Sg) (at_:List Nat) (nm:Str) (cs:List Int),vs=[.ref a,.str nm,.ref l,.ref d]/\H a=some (.tup us)/\L2R (SgIs H) sg us/\H l=some (.tup (atV at_))/\AtS sg at_ ss/\1 <= at_.length/\at_.length <= 4/\(∀ s ∈ sg,SgG s)/\H d=some (.lst (cs.map V.int))/\4 * at_.length+1 <= cs.length/\cs.length <= 140 /\
 ∀ (v:V) (f:Fm) (cs':List Int) (H':Hp),Kp [d] H H'->H' d=some (.lst (cs'.map V.int))->cs.length <= cs'.length+(4 * at_.length+1)->cs'.length <= 140->FmIs H' f v->f.nm=nm->FmG f ss->Q v H'
theorem gK {α:Type} {R:α->V->Prop} (pr:α->Bool):∀ {as:List α} {xs:List V},L2R R as xs->L2R R (as.filter pr) (cP xs (as.map pr))
 | _,_,.nil=>.nil
 | a::as,x::xs,.cons h r=>by
  have ih:=gK pr r
  unfold cP at ih ⊢
  rw[List.map_cons,List.zip_cons_cons,List.filterMap_cons]
  cases hp:pr a with
  | true=>
   rw[List.filter_cons_of_pos hp]
   exact .cons h ih
  | false=>
   rw[List.filter_cons_of_neg (by simp[hp])]
   exact ih
section
variable {P:Program} {w:World} {K:W.Frag} {mg:Str->Option Value} {base:Heap} {T:Adr}
theorem uu (X:Tx K mg T):FnOk P w K mg base CX0 3 T.qB T.d_qB ["_law_signs_here", "_law_name", "_law_at", "_law_deck_here"] vT:=by
 have G_qAO:=(nY (P:=P) (w:=w) (base:=base) X).mono (show 1 <= 2 by decide)
 have G_qBI:=ui (P:=P) (w:=w) (base:=base) X
 refine X.F_qB.okQ sc_qB (fun vs H Q E h=>?_) (fun cdv A outer s H vs Q E hr h=>?_)
 ·obtain⟨_,_,_,_,_,_,_,_,_,rfl,_⟩:=h
  rfl
 obtain⟨a,l,d,us,sg,ss,at_,nm,cs,rfl,ha,hus,hl,ats,l1,l4,gd,hd,lcs,l90,q⟩:=h
 refine⟨_,(ag (am (i:=4) sc_qB.nd rfl (Or.inl rfl) (aq G_qAO hr rfl X.m_qAO X.F_qAO.kp X.b_qAO .nil aW (qaN (qv 0) (qaN (qv 2) ae)))) (ag (am (i:=5) sc_qB.nd rfl (Or.inl rfl) (aV ae)) (ag (bq PassesOwn.never rfl (bB (qv 4)) (az (i:=6) sc_qB.nd rfl (Or.inr rfl)) (ai (bp (aK bL (cS bL (ao ar (qv 6) af (fun _ _=>rfl)) af (aP _)) (cS bL (ao ar (qv 6) af (fun _ _=>rfl)) af (aP _)) (aP _)) (ag (am (i:=7) sc_qB.nd rfl (Or.inr rfl) (cL PySem.F.plainAttrs_list PySem.F.slot_list_pop PySem.F.type_list_pop cN (qv 3))) (ag (am (i:=8) sc_qB.nd rfl (Or.inr rfl) (bH (ys:=["_law_one"]) (js:=[6]) rfl rfl (bB (qv 4)) (fun _ _ _ _ _=>db (aK qz (ao (bF (K:=K) rfl) (qv 0) af (fun _ _=>rfl)) (ao (bF (K:=K) rfl) (qv 1) af (fun _ _=>rfl)) (aP _))) (fun _ _ _ _ _=>(qv 0)))) (ag (dL (ys:=["_law_cell", "_law_low"]) (js:=[7,8]) rfl rfl (aX rfl X.z_range (qaK (ax (pI rfl) rfl X.z_min PyProof.Rows.boot_min (qaS (ao aS (aV (qaC af (qaC af (qaC af (qaC af ae))))) (aj aM (qv 7) af) (fun _ _=>rfl)) (qaB (aj df af (ax call_len_seq rfl X.z_len PySem.boot_len (qaN (qv 8) ae))) ae))) ae)) (fun _ _ _ _ _=>bE) (fun _ _ _ _ _=>(ao (eN (K:=K) rfl) (qv 2) (aj aM (aj aO (qv 1) (aj bw af (aj df af (qv 0)))) (ax (el (K:=K) rfl) rfl X.z_len PySem.boot_len (qaN (qv 2) ae))) (fun _ _=>rfl))) (az (i:=9) sc_qB.nd rfl (Or.inl rfl)) rfl) (ai (bU (eB PySem.F.plainAttrs_list PySem.F.slot_list_append PySem.F.type_list_append bg (qv 5) (qaT (ak (qaS (ao ar (qv 6) af (fun _ _=>rfl)) (qaS (ao ar (qv 6) af (fun _ _=>rfl)) (qaK (aq G_qBI hr rfl X.m_qBI X.F_qBI.kp X.b_qBI .nil aW (qaS (ao ar (qv 6) af (fun _ _=>rfl)) (qaN (qv 9) (qaK (cL PySem.F.plainAttrs_list PySem.F.slot_list_pop PySem.F.type_list_pop cN (qv 3)) ae)))) ae)))) ae))))))) aL))) (ag (am (i:=10) sc_qB.nd rfl (Or.inl rfl) (aj aM (cL PySem.F.plainAttrs_list PySem.F.slot_list_pop PySem.F.type_list_pop cN (qv 3)) (aj bw (ax call_len_seq rfl X.z_len PySem.boot_len (qaN (qv 5) ae)) af))) (ag (am (i:=5) sc_qB.nd rfl (Or.inl rfl) (aj dY (bc cI (qv 5) (bz (qv 10)) bA) (bc cI (qv 5) bA (bz (qv 10))))) (ai (ay (ak (qaN (qv 1) (qaS (ao ar (ao ar (qv 0) (ao ar (qv 2) af (fun _ _=>rfl)) (fun _ _=>rfl)) af (fun _ _=>rfl)) (qaK (aY aT rfl X.z_tuple PyProof.Rows.boot_tuple (qaE (bH (ys:=["_law_signs_here"]) (js:=[0]) rfl rfl (cw (bc eA (qv 2) (bz af) bA)) (fun _ _ _ _ _=>bE) (fun _ _ _ _ _=>(ao (bF (K:=K) rfl) (ao (bF (K:=K) rfl) (qv 1) (qv 0) (fun _ _=>rfl)) af (fun _ _=>rfl)))) ae)) (qaK (aY aT rfl X.z_tuple PyProof.Rows.boot_tuple (qaN (qv 5) ae)) ae)))))))))))),?_⟩
 dsimp only[cm]
 have gs:∀ s ∈ ss,SgG s:=fun s hs=>gd s (ats.mem s hs)
 have ldu:(mj at_.length ss).length <= 2 * at_.length:=by rw[sy,<- ats.l];exact fu ss 0 gs
 refine⟨_,rfl,_,rfl,a,l,us,sg,ss,at_,rfl,ha,hus,hl,ats,by omega,gd,fun D xs H1 s1 nD hD hxs=>?_⟩
 have lxs:=hxs.len
 have hd1:=s1 _ _ hd
 have nDd:D ≠ d:=fun z=>by rw[z,hd] at nD;cases nD
 refine⟨(by show 0 <= sizeLine;decide),fun r hr'=>?_⟩
 have s2:=ac hr' (.lst [])
 have nrd:r ≠ d:=fun z=>by rw[z,hd1] at hr';cases hr'
 have nrD:D ≠ r:=fun z=>by rw[<- z,hD] at hr';cases hr'
 have s12:=s1.trans s2
 have hd2:=s2 _ _ hd1
 have hD2:=s2 _ _ hD
 have hr2:=aa (H:=H1) (a:=r) (o:=.lst [])
 have r0:H r=none:=s1.free hr'
 have hxs2:L2R (VlIs (upd H1 r (.lst []))) (vlF at_.length 0 ss) xs:=hxs.imp fun _ _ h=>VlIs.same (au s2) h
 generalize upd H1 r (.lst [])=H2 at s12 hd2 hD2 hr2 hxs2 ⊢
 have LST:∀ b ∈ [d,r],∃ ys,H2 b=some (.lst ys):=fun b hb=>by
  simp at hb
  rcases hb with rfl | rfl
  ·exact⟨_,hd2⟩
  ·exact⟨_,hr2⟩
 have lvl:(vlF at_.length 0 ss).length <= 1000:=by
  have key:∀ (ss:List Sg) (k:Nat),(∀ s ∈ ss,SgG s)->(vlF at_.length k ss).length <= 4 * ss.length:=fun ss=>by
   induction ss with
   | nil=>intro k _;exact Nat.le_refl _
   | cons x r ih=>
    intro k h
    have h1:=h x (by simp)
    have l1:=h1.ld
    have l2:=h1.lu
    have:=ih (k+1) fun s hs=>h s (by simp[hs])
    rw[vlF,List.length_append,List.length_append,dD,dD,gB,gB,List.length_cons]
    show (if (0:Nat)=0 then x.dn else x.up).length+(if (1:Nat)=0 then x.dn else x.up).length+_ <= _
    rw[if_pos rfl,if_neg (by decide)]
    omega
  have:=key ss 0 gs
  have:=ats.l
  omega
 refine⟨_,rfl,D,rfl,⟨_,SqL.of hD2⟩,cq (K:=K) (a:=D) (xs:=xs) (fun i σ H'=>∃ (ds:List Int) (rs:List Ru) (zs:List V) (x6 x7 x8 x9 x10:Option V),σ=[some (.ref a),some (.str nm),some (.ref l),some (.ref d),some (.ref D),some (.ref r),x6,x7,x8,x9,x10]/\Kp [d,r] H2 H'/\H' d=some (.lst (ds.map V.int))/\ds.length+2 * rs.length=cs.length/\H' r=some (.lst zs)/\L2R (RuIs H') rs zs/\rs.map keyR=(((vlF at_.length 0 ss).take i).filter jw).map jo/\∀ q ∈ rs,yD (vlF at_.length 0 ss) q)
  ⟨cs,[],[],none,none,none,none,none,rfl,Kp.refl _ _,hd2,rfl,hr2,.nil,rfl,(fun q h=>nomatch h)⟩ (fun i σ H' _ ⟨_,_,_,_,_,_,_,_,_,kp,_⟩=>SqL.of (kp _ _ (by simp;exact⟨nDd,nrD⟩) hD2)) ?_ ?_⟩
 ·rintro i v σ H' hv ⟨ds,rs,zs,x6,x7,x8,x9,x10,rfl,kp,hd',lds,hr1,hzs,hke,hdp⟩
  obtain⟨⟨k,n,kd,rr,b⟩,he,hve⟩:=hxs2.get hv
  have lzs:=hzs.len
  obtain⟨p,rfl,hp⟩:=VlIs.same (kp.T LST) hve
  have hp:H' p=some (.tup [.int k,.str n,.str kd,.int rr,.int b]):=hp
  have take1:((vlF at_.length 0 ss).take (i+1)).filter jw=((vlF at_.length 0 ss).take i).filter jw++(if jw (k,n,kd,rr,b)=true then [(k,n,kd,rr,b)] else []):=by
   rw[aJ he,List.filter_append]
   congr 1
   by_cases h:jw (k,n,kd,rr,b)=true
   ·rw[if_pos h,List.filter_cons_of_pos h];rfl
   ·rw[if_neg h,List.filter_cons_of_neg h];rfl
  refine⟨_,rfl,p,_,0,.int k,rfl,rfl,SqT.of hp,rfl,rfl,_,rfl,p,_,4,.int b,rfl,rfl,SqT.of hp,rfl,rfl,rfl,_,rfl,?_⟩
  show if jw (k,n,kd,rr,b)=true then _ else _
  by_cases hdue:jw (k,n,kd,rr,b)=true
  ·rw[if_pos hdue]
   rw[if_pos hdue] at take1
   have cnt:rs.length+1 <= (mj at_.length ss).length:=by
    have e1:=congrArg List.length hke
    rw[List.length_map,List.length_map] at e1
    have e2:(((vlF at_.length 0 ss).take (i+1)).filter jw).length <= ((vlF at_.length 0 ss).filter jw).length:=((List.take_sublist _ _).filter _).length_le
    rw[take1,List.length_append,List.length_singleton] at e2
    unfold mj
    rw[List.length_map]
    omega
   obtain⟨ds0,c,rfl⟩:=bW (l:=ds) (by omega)
   rw[List.length_append,List.length_singleton] at lds
   have hd':H' d=some (.lst (ds0.map V.int++[.int c])):=by rw[hd',List.map_append];rfl
   refine⟨_,rfl,.inl ⟨rfl,_,SqL.of hd'⟩,d,_,.int c,rfl,rfl,hd',by simp,?_⟩
   dsimp only
   rw[List.dropLast_concat]
   have T1:SameT H' (upd H' d (.lst (ds0.map V.int))):=aI hd'
   have kp1:Kp [d,r] H2 (upd H' d (.lst (ds0.map V.int))):=kp.upd (by simp)
   have hd1':=aa (H:=H') (a:=d) (o:=.lst (ds0.map V.int))
   have hr1':upd H' d (.lst (ds0.map V.int)) r=some (.lst zs):=by rw[av nrd];exact hr1
   have hzs1:L2R (RuIs (upd H' d (.lst (ds0.map V.int)))) rs zs:=hzs.imp fun _ _ h=>RuIs.same T1 h
   have hp1:=T1 _ _ hp
   generalize upd H' d (.lst (ds0.map V.int))=G1 at kp1 hd1' hr1' hzs1 hp1 ⊢
   have hD1:=kp1 _ _ (by simp;exact⟨nDd,nrD⟩) hD2
   have hxs1:L2R (VlIs G1) (vlF at_.length 0 ss) xs:=hxs2.imp fun _ _ h=>VlIs.same (kp1.T LST) h
   refine⟨_,rfl,D,rfl,⟨_,SqL.of hD1⟩,fun L nL=>?_⟩
   refine iK (K:=K) (xs:=xs) ((vlF at_.length 0 ss).map fun e'=>decide (e'.2.2.2.1 < rr)) (bM (by omega)) (by rw[List.length_map];omega) (SqL.of hD1) nL (fun j x kb G hx hk sm Q' q'=>?_) (fun x G Q' q'=>⟨_,rfl,q'⟩) (fun G2 s3 hL=>?_)
   ·obtain⟨⟨k',n',kd',rr',b'⟩,he',p',rfl,hp'⟩:=hxs1.get hx
    have hp':G1 p'=some (.tup [.int k',.str n',.str kd',.int rr',.int b']):=hp'
    rw[List.getElem?_map,he'] at hk
    cases hk
    exact⟨_,rfl,p',_,3,.int rr',rfl,rfl,SqT.of (sm _ _ hp'),rfl,_,rfl,p,_,3,.int rr,rfl,rfl,SqT.of (sm _ _ hp1),rfl,_,_,rfl,rfl,_,rfl,q' _ (Same.refl _)⟩
   have hlow:L2R (VlIs G2) ((vlF at_.length 0 ss).filter fun e'=>decide (e'.2.2.2.1 < rr)) (cP xs ((vlF at_.length 0 ss).map fun e'=>decide (e'.2.2.2.1 < rr))):=gK _ (hxs1.imp fun _ _ h=>VlIs.same (au s3) h)
   have lkp:=gO xs ((vlF at_.length 0 ss).map fun e'=>decide (e'.2.2.2.1 < rr))
   generalize cP xs ((vlF at_.length 0 ss).map fun e'=>decide (e'.2.2.2.1 < rr))=ks at hL hlow lkp
   have c40:=Int.emod_nonneg c (show (4:Int) ≠ 0 by decide)
   have c41:=Int.emod_lt_of_pos c (show (0:Int) < 4 by decide)
   obtain⟨cu,hcu,cu0,cu2⟩ : ∃ cu:Int,atI [V.int 0,V.int 1,V.int 2,V.int 2] (c % 4)=some (.int cu)/\0 <= cu/\cu <= 2:=by
    have:c % 4=0\/c % 4=1\/c % 4=2\/c % 4=3:=by omega
    rcases this with e | e | e | e <;> rw[e] <;> exact⟨_,rfl,by decide,by decide⟩
   refine⟨(by show 4 <= sizeLine;decide),fun a4 h4=>?_⟩
   have s4:=ac h4 (.lst [.int 0,.int 1,.int 2,.int 2])
   have hL4:=s4 _ _ hL
   refine⟨_,rfl,_,_,rfl,rfl,(by show (0:Int) < 4;decide),a4,_,_,.int cu,rfl,rfl,SqL.of aa,hcu,_,rfl,L,ks,rfl,.inl (SqL.of hL4),_,_,rfl,rfl,.inl ⟨by decide,by decide⟩,_,_,rfl,?_⟩
   obtain⟨mn,hmn,mn0,mn2,mnk⟩ : ∃ mn:Int,(if 2 * (ks.length:Int) < cu then 2 * (ks.length:Int) else cu)=mn/\0 <= mn/\mn <= 2/\(0 < mn->0 < ks.length):=by
    refine⟨_,rfl,?_,?_,?_⟩ <;> split <;> omega
   rw[hmn]
   have s34:=s3.trans s4
   have hlow4:=hlow.imp fun _ _ h=>VlIs.same (au s4) h
   have hp4:=s34 _ _ hp1
   generalize upd G2 a4 (.lst [.int 0,.int 1,.int 2,.int 2])=G4 at s4 hL4 s34 hlow4 hp4 ⊢
   refine⟨_,rfl,by omega,by omega,fun E1 hE1=>?_⟩
   refine cr (fun j acc G=>∃ es:List Vl,es.length=j/\L2R (VlIs G) es acc/\(∀ e' ∈ es,e' ∈ vlF at_.length 0 ss/\e'.2.2.2.1 < rr)/\Same G4 G/\G E1=some (.lst acc)) (Nat.lt_of_le_of_lt (show mn.toNat <= 1000 by omega) (by decide)) ⟨[],rfl,.nil,(fun e' h=>nomatch h),ac hE1 _,aa⟩ (fun j acc G ⟨es,l,r,_,_,d⟩=>⟨d,by rw[r.len,l]⟩) ?_ ?_
   ·rintro j m' acc G hj ⟨es,le,re,lo,sm,dd⟩ hm'
    have hkp:0 < ks.length:=mnk (by omega)
    have hpos:(0:Int) < ((ks.length:Nat):Int):=by omega
    have i0:=Int.emod_nonneg (c / (4+3 * (0+(j:Int)))) (show ((ks.length:Nat):Int) ≠ 0 by omega)
    have i1:=Int.emod_lt_of_pos (c / (4+3 * (0+(j:Int)))) hpos
    obtain⟨y,hy1,e',hme,he'⟩ : ∃ y,atI ks (c / (4+3 * (0+(j:Int))) % ((ks.length:Nat):Int))=some y/\∃ e',e' ∈ (vlF at_.length 0 ss).filter (fun e'=>decide (e'.2.2.2.1 < rr))/\VlIs G e' y:=by
     obtain⟨m,hm⟩:=Int.eq_ofNat_of_zero_le i0
     rw[hm]
     obtain⟨y,hy⟩ : ∃ y,ks[m]?=some y:=⟨_,List.getElem?_eq_getElem (by omega)⟩
     obtain⟨e',h1,h2⟩:=hlow4.get hy
     exact⟨y,bt hy,e',List.mem_of_getElem? h1,VlIs.same (au sm) h2⟩
    refine⟨_,rfl,_,rfl,_,rfl,_,_,rfl,rfl,.inl ⟨by omega,by omega⟩,_,_,rfl,rfl,_,_,rfl,rfl,⟨by omega,by omega⟩,_,rfl,L,_,rfl,.inl (SqL.of (sm _ _ hL4)),_,_,rfl,rfl,hpos,L,_,_,y,rfl,rfl,SqL.of (sm _ _ hL4),hy1,?_⟩
    have TE:=aI (ys:=acc++[y]) dd
    refine eF hj hm' dd ⟨es++[e'],by rw[List.length_append,le];rfl,(re.imp fun _ _ h=>VlIs.same TE h).snoc (VlIs.same TE he'),fun e'' h''=>?_,aN hE1 sm,aa⟩
    rcases List.mem_append.mp h'' with h | h
    ·exact lo e'' h
    ·rw[List.mem_singleton.mp h]
     obtain⟨h1,h2⟩:=List.mem_filter.mp hme
     exact⟨h1,by simpa using h2⟩
   rintro acc G5 ⟨es,le,re,lo,s5,hE5⟩
   have lre:=re.len
   have s35:=s34.trans s5
   have hp5:=s35 _ _ hp1
   have hr5:=s35 _ _ hr1'
   have hd5:=s35 _ _ hd1'
   have hkd:kd ∈ dh:=by
    obtain⟨i',s',h1,_,p',hp',_,h4⟩:=mI at_.length ss 0 _ (List.mem_of_getElem? he)
    have h4:kd=p'.2:=h4
    rw[h4]
    exact ((gs s' (List.mem_of_getElem? h1)).ok p' hp').2
   obtain⟨ds',c2,rfl⟩:=bW (l:=ds0) (by omega)
   rw[List.length_append,List.length_singleton] at lds
   have hd5:G5 d=some (.lst (ds'.map V.int++[.int c2])):=by rw[hd5,List.map_append];rfl
   have nEd:E1 ≠ d:=fun z=>by rw[z,s34 _ _ hd1'] at hE1;cases hE1
   refine⟨_,rfl,.inl ⟨rfl,_,SqL.of hr5⟩,_,rfl,p,_,0,.int k,rfl,rfl,SqT.of hp5,rfl,_,rfl,p,_,1,.str n,rfl,rfl,SqT.of hp5,rfl,_,rfl,p,_,2,.str kd,rfl,rfl,SqT.of hp5,rfl,_,rfl,_,rfl,.inl ⟨rfl,_,SqL.of hd5⟩,d,_,.int c2,rfl,rfl,hd5,by simp,?_⟩
   dsimp only
   rw[List.dropLast_concat]
   have T6:SameT G5 (upd G5 d (.lst (ds'.map V.int))):=aI hd5
   have hd6:=aa (H:=G5) (a:=d) (o:=.lst (ds'.map V.int))
   have hE6:upd G5 d (.lst (ds'.map V.int)) E1=some (.lst acc):=by rw[av nEd];exact hE5
   have hr6:upd G5 d (.lst (ds'.map V.int)) r=some (.lst zs):=by rw[av nrd];exact hr5
   have kp6:Kp [d,r] H2 (upd G5 d (.lst (ds'.map V.int))):=(kp1.same s35).upd (by simp)
   have re6:=re.imp fun _ _ h=>VlIs.same T6 h
   have hzs6:=hzs1.imp fun _ _ h=>RuIs.same ((au s35).trans T6) h
   generalize upd G5 d (.lst (ds'.map V.int))=G6 at hd6 hE6 hr6 kp6 re6 hzs6 ⊢
   refine⟨kd,E1,es,acc,_,rfl,hkd,hE6,re6,by omega,fun t x G7 s7 ht dt=>⟨(by show 3 <= sizeLine;decide),fun t8 ht8=>?_⟩⟩
   have s8:=ac ht8 (.tup [.int k,.str n,x])
   have s78:=s7.trans s8
   have hr8:=s78 _ _ hr6
   refine⟨r,zs,_,rfl,rfl,hr8,bM (by omega),ds',rs++[⟨k,n,t⟩],zs++[.ref t8],_,_,_,_,_,rfl,(kp6.same s78).upd (by simp),by rw[av nrd.symm];exact s78 _ _ hd6,by rw[List.length_append,List.length_singleton];omega,aa,?_,?_,?_⟩
   ·have TL:=aI (ys:=zs++[.ref t8]) hr8
    exact (hzs6.imp fun _ _ h=>RuIs.same ((au s78).trans TL) h).snoc ⟨t8,x,rfl,TL _ _ aa,TmIs.same ((au s8).trans TL) t ht⟩
   ·rw[take1,List.map_append,List.map_append,hke]
    rfl
   ·intro q' hq'
    rcases List.mem_append.mp hq' with h | h
    ·exact hdp q' h
    ·rw[List.mem_singleton.mp h]
     refine⟨dt.dp,dt.pt,(k,n,kd,rr,b),List.mem_of_getElem? he,rfl,fun p' hp'=>?_⟩
     obtain⟨e',he',rfl⟩:=List.mem_map.mp (dt.nm p' hp')
     obtain⟨h1,h2⟩:=lo e' he'
     exact⟨e',h1,h2,rfl⟩
  ·rw[if_neg hdue]
   rw[if_neg hdue,List.append_nil] at take1
   exact⟨ds,rs,zs,_,_,_,_,_,rfl,kp,hd',lds,hr1,hzs,by rw[take1];exact hke,hdp⟩
 ·rintro σ H' ⟨ds,rs,zs,x6,x7,x8,x9,x10,rfl,kp,hd',lds,hr1,hzs,hke,hdp⟩
  rw[List.take_of_length_le (by omega)] at hke
  have hke:rs.map keyR=mj at_.length ss:=hke
  have lrs:rs.length=(mj at_.length ss).length:=by have:=congrArg List.length hke;rwa [List.length_map] at this
  rw[sy] at hke
  have lzs:=hzs.len
  obtain⟨ds',c,rfl⟩:=bW (l:=ds) (by omega)
  rw[List.length_append,List.length_singleton] at lds
  have hd':H' d=some (.lst (ds'.map V.int++[.int c])):=by rw[hd',List.map_append];rfl
  refine⟨_,rfl,.inl ⟨rfl,_,SqL.of hd'⟩,d,_,.int c,rfl,rfl,hd',by simp,?_⟩
  rw[List.dropLast_concat]
  have T1:SameT H' (upd H' d (.lst (ds'.map V.int))):=aI hd'
  have kp1:Kp [d,r] H2 (upd H' d (.lst (ds'.map V.int))):=kp.upd (by simp)
  have hd1':=aa (H:=H') (a:=d) (o:=.lst (ds'.map V.int))
  have hr1':upd H' d (.lst (ds'.map V.int)) r=some (.lst zs):=by rw[av nrd];exact hr1
  have hzs1:L2R (RuIs (upd H' d (.lst (ds'.map V.int)))) rs zs:=hzs.imp fun _ _ h=>RuIs.same T1 h
  generalize upd H' d (.lst (ds'.map V.int))=G1 at kp1 hd1' hr1' hzs1 ⊢
  have hpos:(0:Int) < ((zs.length:Nat):Int)+1:=by omega
  have t0:=Int.emod_nonneg c (show ((zs.length:Nat):Int)+1 ≠ 0 by omega)
  have t1:=Int.emod_lt_of_pos c hpos
  refine⟨_,rfl,r,_,rfl,.inl (SqL.of hr1'),_,_,rfl,rfl,_,_,rfl,rfl,hpos,?_⟩
  dsimp only
  generalize c % (((zs.length:Nat):Int)+1)=tn at t0 t1 ⊢
  obtain⟨m,rfl⟩:=Int.eq_ofNat_of_zero_le t0
  refine⟨_,rfl,_,rfl,_,rfl,r,_,rfl,SqL.of hr1',fun b1 hb1=>?_⟩
  rw[cR zs m]
  have s3:=ac hb1 (.lst (zs.drop m))
  refine⟨_,rfl,_,rfl,_,rfl,r,_,rfl,SqL.of (s3 _ _ hr1'),fun b2 hb2=>?_⟩
  rw[bS zs m]
  have s4:=ac hb2 (.lst (zs.take m))
  refine⟨b1,b2,_,_,rfl,rfl,s4 _ _ aa,aa,bP (by rw[List.length_drop,List.length_take];omega),fun b3 hb3=>?_⟩
  have s5:=ac hb3 (.lst (zs.drop m++zs.take m))
  have s35:=s3.trans (s4.trans s5)
  have hb3':=aa (H:=upd (upd G1 b1 (.lst (zs.drop m))) b2 (.lst (zs.take m))) (a:=b3) (o:=.lst (zs.drop m++zs.take m))
  have hzs3:L2R (RuIs (upd (upd (upd G1 b1 (.lst (zs.drop m))) b2 (.lst (zs.take m))) b3 (.lst (zs.drop m++zs.take m)))) (rs.drop m++rs.take m) (zs.drop m++zs.take m):=(gL m (hzs1.imp fun _ _ h=>RuIs.same (au s35) h)).app (eM m (hzs1.imp fun _ _ h=>RuIs.same (au s35) h))
  generalize upd (upd (upd G1 b1 (.lst (zs.drop m))) b2 (.lst (zs.take m))) b3 (.lst (zs.drop m++zs.take m))=G3 at s35 hb3' hzs3 ⊢
  have kpG:Kp [d,r] H2 G3:=kp1.same s35
  have T3:=kpG.T LST
  have ha3:G3 a=some (.tup us):=T3 _ _ (s12 _ _ ha)
  have hl3:G3 l=some (.tup (atV at_)):=T3 _ _ (s12 _ _ hl)
  have hus3:L2R (SgIs G3) sg us:=hus.imp fun _ _ h=>SgIs.same ((au s12).trans T3) h
  obtain⟨n0,hn0⟩ : ∃ n,at_[0]?=some n:=⟨_,List.getElem?_eq_getElem (by omega)⟩
  obtain⟨sh0,hs0,hss0⟩:=ats.e 0 n0 hn0
  obtain⟨v0,hv0,hsv0⟩:=cF hus3 hs0
  obtain⟨p0,da0,ua0,dus0,uus0,rfl,hp0,_⟩:=hsv0
  refine⟨_,rfl,_,rfl,_,rfl,l,_,_,.int (n0:Int),rfl,rfl,SqT.of hl3,bt (j:=0) (by unfold atV;rw[List.getElem?_map,hn0];rfl),a,_,_,.ref p0,rfl,rfl,SqT.of ha3,bt hv0,p0,_,_,.str sh0.nm,rfl,rfl,SqT.of hp0,rfl,_,rfl,_,rfl,l,_,rfl,hl3,fun b6 G4 s6 hb6'=>?_⟩
  rw[show fI (atV at_) (some (1:Int)) none=(atV at_).drop 1 from cR _ 1] at hb6'
  have lss:=ats.l
  have latV:((atV at_).drop 1).length=at_.length - 1:=by unfold atV;rw[List.length_drop,List.length_map]
  refine⟨b6,rfl,⟨_,SqT.of hb6'⟩,fun E2 hE2=>?_⟩
  refine pE (K:=K) (ys:=((ss.drop 1).map Sg.nm).map V.str) (bM (by omega)) (by rw[List.length_map,List.length_map,List.length_drop];omega) (SqT.of hb6') hE2 (fun j x y G hx hy sm Q' k'=>?_) fun G5 s7 hE4=>?_
  ·obtain⟨n,hn⟩ : ∃ n,at_[1+j]?=some n/\x=.int (n:Int):=by
    unfold atV at hx
    rw[List.getElem?_drop,List.getElem?_map] at hx
    cases e:at_[1+j]? with
    | none=>rw[e] at hx;cases hx
    | some n=>rw[e] at hx;exact⟨n,rfl,(Option.some.inj hx).symm⟩
   obtain⟨hn,rfl⟩:=hn
   obtain⟨s',hs',hss'⟩:=ats.e (1+j) n hn
   obtain⟨v',hv',hsv'⟩:=cF hus3 hs'
   obtain⟨p',da',ua',dus',uus',rfl,hp',_⟩:=hsv'
   have ey:y=.str s'.nm:=by
    rw[List.getElem?_map,List.getElem?_map,List.getElem?_drop,hss'] at hy
    exact (Option.some.inj hy).symm
   subst ey
   have sm':=s6.trans sm
   exact⟨_,rfl,_,rfl,a,_,_,.ref p',rfl,rfl,SqT.of (sm' _ _ ha3),bt hv',p',_,_,_,rfl,rfl,SqT.of (sm' _ _ hp'),rfl,k' G (Same.refl _)⟩
  refine⟨E2,_,rfl,.inl ⟨SqL.of hE4,fun t1' ht1=>?_⟩⟩
  have z1:=ac ht1 (.tup (((ss.drop 1).map Sg.nm).map V.str))
  have sB:=s6.trans (s7.trans z1)
  refine⟨_,rfl,b3,_,rfl,.inl ⟨SqL.of (sB _ _ hb3'),fun t2' ht2=>?_⟩⟩
  have z2:=ac ht2 (.tup (zs.drop m++zs.take m))
  refine⟨(by show 4 <= sizeLine;decide),fun t3' ht3=>?_⟩
  have z3:=ac ht3 (.tup [.str nm,.str sh0.nm,.ref t1',.ref t2'])
  have z23:=z2.trans z3
  have sC:=sB.trans z23
  refine q (.ref t3') ⟨nm,sh0.nm,(ss.drop 1).map Sg.nm,rs.drop m++rs.take m⟩ ds' _ (fun b o n h=>?_) (sC _ _ (s35 _ _ hd1')) (by omega) (by omega) ?_ rfl ?_
  ·have nb:b ≠ r:=fun z=>by rw[z,r0] at h;cases h
   exact sC _ _ (kpG b o (by simp;exact⟨by simpa using n,nb⟩) (s12 _ _ h))
  ·exact⟨t3',t1',t2',_,rfl,aa,z23 _ _ aa,z3 _ _ aa,hzs3.imp fun _ _ h=>RuIs.same (au sC) h⟩
  ·refine⟨?_,⟨m,by show (rs.drop m++rs.take m).map keyR=_;rw[List.map_append,List.map_drop,List.map_take,hke]⟩,fun r' hr'=>?_⟩
   ·show ss.map Sg.nm=sh0.nm::(ss.drop 1).map Sg.nm
    cases ss with
    | nil=>simp at hss0
    | cons x xs'=>simp at hss0;subst hss0;rfl
   ·rw[ats.l]
    rcases List.mem_append.mp hr' with h | h
    ·exact hdp r' (List.mem_of_mem_drop h)
    ·exact hdp r' (List.mem_of_mem_take h)
end
end K41
namespace K41
open PySem L2 TR FT SP
open TM
noncomputable def sZ (sg:List Sg) (at_:List Nat):List Sg:=at_.map fun n=>sg.getD n ⟨"",[],[]⟩
theorem gr {sg:List Sg} {at_:List Nat} (h:∀ n ∈ at_,n < sg.length):AtS sg at_ (sZ sg at_):=by
 refine⟨by unfold sZ;rw[List.length_map],fun i n hn=>?_⟩
 have hl:=h n (List.mem_of_getElem? hn)
 refine⟨sg[n],List.getElem?_eq_getElem hl,?_⟩
 unfold sZ
 rw[List.getElem?_map,hn]
 show some (sg.getD n _)=_
 rw[List.getD_eq_getElem?_getD,List.getElem?_eq_getElem hl]
 rfl
theorem oT {c:Int} {fm:List Fm} (h:∀ (j:Nat) s,fm[j]?=some s->s.nm=wrd c j) (l:fm.length <= 26):(fm.map Fm.nm).Nodup:=by
 refine List.pairwise_iff_getElem.mpr fun i j hi hj hlt he=>?_
 rw[List.length_map] at hi hj
 rw[List.getElem_map,List.getElem_map,h i _ (List.getElem?_eq_getElem hi),h j _ (List.getElem?_eq_getElem hj)] at he
 have:=eo (by omega) (by omega) (by omega) (by omega) he
 omega
def ShI (H:Hp) (sh:List Nat) (v:V):Prop:=∃ l,v=.ref l/\H l=some (.tup (atV sh))
theorem ShI.same {H H':Hp} (e:SameT H H') {sh:List Nat} {v:V} (h:ShI H sh v):ShI H' sh v:=by
 obtain⟨l,x,y⟩:=h
 exact⟨l,x,e _ _ y⟩
structure Shs (N:Nat) (shs:List (List Nat)):Prop where
 one:∀ k,k < N->shs[k]?=some [k]
 all:∀ sh ∈ shs,sh ≠ []/\sh.length <= 4/\∀ j ∈ sh,j < N
theorem yH (N:Nat):Shs N ((List.range N).map fun k=>[k]):=by
 refine⟨fun k hk=>?_,fun sh hs=>?_⟩
 ·rw[List.getElem?_map,List.getElem?_range hk]
  rfl
 ·obtain⟨k,hk,rfl⟩:=List.mem_map.mp hs
  refine⟨(fun z=>nomatch z),(by show 1 <= 4;decide),fun j hj=>?_⟩
  rw[List.mem_singleton.mp hj]
  exact List.mem_range.mp hk
theorem Shs.snoc {N:Nat} {shs:List (List Nat)} {sh:List Nat} (h:Shs N shs) (h1:sh ≠ []) (h2:sh.length <= 4) (h3:∀ j ∈ sh,j < N):Shs N (shs++[sh]):=by
 have ap:∀ {k:Nat} {x},shs[k]?=some x->(shs++[sh])[k]?=some x:=fun {k x} e=>by rw[List.getElem?_append_left (aD e)];exact e
 refine⟨fun k hk=>ap (h.one k hk),fun x hx=>?_⟩
 rcases List.mem_append.mp hx with g | g
 ·exact h.all x g
 ·rw[List.mem_singleton.mp g]
  exact⟨h1,h2,h3⟩
structure FormG (sg:List Sg) (f:Fm) (ss:List Sg):Prop where
 mem:∀ s ∈ ss,s ∈ sg
 fm:FmG f ss
 l1:1 <= ss.length
 l4:ss.length <= 4
structure GrG (g:Gr):Prop where
 sg:yB g.sg
 nw:∃ w,∀ (j:Nat) f,g.fm[j]?=some f->f.nm=wrd w j
 fm:∀ f ∈ g.fm,∃ ss,FormG g.sg f ss
 one:∀ (k:Nat) s,g.sg[k]?=some s->∃ f,g.fm[k]?=some f/\f.hd=s.nm/\f.br=[]
 l10:g.fm.length <= 10
def vS:Sp:=fun vs H Q _=>∃ (d:Addr) (cs:List Int),vs=[.ref d]/\H d=some (.lst (cs.map V.int))/\cs.length=139/\∀ (v:V) (g:Gr) (cs':List Int) (H':Hp),Kp [d] H H'->GrIs H' g v->GrG g->H' d=some (.lst (cs'.map V.int))->30 <= cs'.length->Q v H'
noncomputable def cst (N i:Nat):Nat:=5 * min i N+17 * (i - N)
section
variable {P:Program} {w:World} {K:W.Frag} {mg:Str->Option Value} {base:Heap} {T:Adr}
theorem ur (X:Tx K mg T):FnOk P w K mg base CX0 4 T.qAH T.d_qAH ["_law_deck_here"] vS:=by
 have G_qBK:=(gF (P:=P) (w:=w) (base:=base) X).mono (show 1 <= 3 by decide)
 have G_qAU:=(qD (P:=P) (w:=w) (base:=base) X).mono (show 2 <= 3 by decide)
 have G_qB:=uu (P:=P) (w:=w) (base:=base) X
 refine X.F_qAH.okQ sc_qAH (fun vs H Q E h=>?_) (fun cdv A outer s H vs Q E hr h=>?_)
 ·obtain⟨_,_,rfl,_⟩:=h
  rfl
 obtain⟨d,cs,rfl,hd,lcs,q⟩:=h
 refine⟨_,(ag (am (i:=1) sc_qAH.nd rfl (Or.inr rfl) (aq G_qAU hr rfl X.m_qAU X.F_qAU.kp X.b_qAU .nil aW (qaN (qv 0) ae))) (ag (am (i:=2) sc_qAH.nd rfl (Or.inr rfl) (bH (ys:=[]) (js:=[]) rfl rfl (aX rfl X.z_range (qaK (ax call_len_seq rfl X.z_len PySem.boot_len (qaN (qv 1) ae)) ae)) (fun _ _ _ _ _=>bE) (fun _ _ _ _ _=>(ak (qaN (qv 0) ae))))) (ag (bq PassesOwn.never rfl (aX rfl X.z_range (qaB (aj bw af (aj aM (cL PySem.F.plainAttrs_list PySem.F.slot_list_pop PySem.F.type_list_pop cN (qv 0)) af)) ae)) (az (i:=3) sc_qAH.nd rfl (Or.inl rfl)) (ag (am (i:=4) sc_qAH.nd rfl (Or.inr rfl) (cL PySem.F.plainAttrs_list PySem.F.slot_list_pop PySem.F.type_list_pop cN (qv 0))) (ai (bU (eB PySem.F.plainAttrs_list PySem.F.slot_list_append PySem.F.type_list_append bg (qv 2) (qaK (aY aT rfl X.z_tuple PyProof.Rows.boot_tuple (qaE (bH (ys:=["_law_signs_here", "_law_cell"]) (js:=[1,4]) rfl rfl (aX rfl X.z_range (qaB (aj bw af (aj aM (qv 4) af)) ae)) (fun _ _ _ _ _=>bE) (fun _ _ _ _ _=>(aj aM (aj aO (qv 2) (aj bw af (aj df af (qv 0)))) (ax (el (K:=K) rfl) rfl X.z_len PySem.boot_len (qaN (qv 1) ae))))) ae)) ae)))))) (ag (am (i:=5) sc_qAH.nd rfl (Or.inr rfl) (cL PySem.F.plainAttrs_list PySem.F.slot_list_pop PySem.F.type_list_pop cN (qv 0))) (ag (dL (ys:=["_law_deck_here", "_law_signs_here", "_law_shapes", "_law_word_here"]) (js:=[0,1,2,5]) rfl rfl (aX rfl X.z_range (qaK (ax call_len_seq rfl X.z_len PySem.boot_len (qaN (qv 2) ae)) ae)) (fun _ _ _ _ _=>bE) (fun _ _ _ _ _=>(aq G_qB hr rfl X.m_qB X.F_qB.kp X.b_qB .nil aW (qaN (qv 2) (qaK (aq G_qBK hr rfl X.m_qBK X.F_qBK.kp X.b_qBK .nil aW (qaN (qv 4) (qaN (qv 0) ae))) (qaS (ao (eN (K:=K) rfl) (qv 3) (qv 0) (fun _ _=>rfl)) (qaN (qv 1) ae)))))) (az (i:=6) sc_qAH.nd rfl (Or.inl rfl)) rfl) (ai (ay (ak (qaN (qv 1) (qaK (aY aT rfl X.z_tuple PyProof.Rows.boot_tuple (qaN (qv 6) ae)) ae)))))))))),?_⟩
 dsimp only[cm]
 refine⟨_,rfl,d,cs,rfl,hd,by omega,by omega,fun a us sg cs1 H1 k1 hd1 lc1 lc140 ha hus sgg=>?_⟩
 have lus:=hus.len
 have n1:=sgg.l1
 have n3:=sgg.l6
 refine⟨_,rfl,a,us,rfl,.inr (SqT.of ha),_,rfl,by omega,by omega,fun D nD=>?_⟩
 refine cr (fun i acc H'=>Same H1 H'/\H' D=some (.lst acc)/\acc.length=i/\L2R (ShI H') ((List.range i).map fun k=>[k]) acc) (bM (by omega)) ⟨ac nD _,aa,rfl,.nil⟩ (fun i acc H' ⟨_,x,y,_⟩=>⟨x,y⟩) (fun i m acc H' hi ⟨sm,hD,la,hsh⟩ hm=>?_) (fun acc H2 ⟨s2,hD2,la,hsh⟩=>?_)
 ·refine⟨_,rfl,(by show 1 <= sizeLine;decide),fun l nl=>?_⟩
  have sl:=ac nl (.tup [.int (0+(i:Int))])
  have tD:=aI (ys:=acc++[.ref l]) (sl _ _ hD)
  refine eF hi hm (sl _ _ hD) ⟨aN nD (sm.trans sl),aa,by rw[List.length_append,la];rfl,?_⟩
  rw[List.range_succ,List.map_append]
  refine (hsh.imp fun _ _ h=>h.same ((au sl).trans tD)).snoc ⟨l,rfl,tD _ _ ?_⟩
  rw[aa,Int.zero_add]
  rfl
 have hN:(us.length:Int).toNat=sg.length:=by omega
 rw[hN] at hsh la
 have nDd:D ≠ d:=bj hd1 nD
 have D0:H D=none:=k1.free nD (by simpa using nDd)
 have hd2:=s2 _ _ hd1
 have k2:=k1.same s2
 have ha2:=s2 _ _ ha
 have hus2:=hus.imp fun _ _ h=>SgIs.same (au s2) h
 obtain⟨cs2,c0,rfl⟩:=bW (l:=cs1) (by omega)
 rw[List.length_append,List.length_singleton] at lc1 lc140
 have hd2:H2 d=some (.lst (cs2.map V.int++[.int c0])):=by rw[hd2,List.map_append];rfl
 refine⟨_,rfl,.inl ⟨rfl,_,SqL.of hd2⟩,d,_,.int c0,rfl,rfl,hd2,by simp,?_⟩
 rw[List.dropLast_concat]
 have c40:=Int.emod_nonneg c0 (show (4:Int) ≠ 0 by decide)
 have c41:=Int.emod_lt_of_pos c0 (show (0:Int) < 4 by decide)
 refine⟨_,_,rfl,rfl,(by show (0:Int) < 4;decide),_,_,rfl,rfl,_,rfl,by omega,by omega,?_⟩
 have k3:Kp [d] H (upd H2 d (.lst (cs2.map V.int))):=k2.upd (by simp)
 have hd3:=aa (H:=H2) (a:=d) (o:=.lst (cs2.map V.int))
 have hD3:upd H2 d (.lst (cs2.map V.int)) D=some (.lst acc):=by rw[av nDd];exact hD2
 have T23:SameT H2 (upd H2 d (.lst (cs2.map V.int))):=aI hd2
 have hsh3:=hsh.imp fun _ _ h=>ShI.same T23 h
 have ha3:=T23 _ _ ha2
 have hus3:=hus2.imp fun _ _ h=>SgIs.same T23 h
 generalize upd H2 d (.lst (cs2.map V.int))=H3 at k3 hd3 hD3 hsh3 ha3 hus3 ⊢
 have LST:∀ b ∈ [d,D],∃ ys,H3 b=some (.lst ys):=fun b hb=>by
  simp at hb
  rcases hb with rfl | rfl
  ·exact⟨_,hd3⟩
  ·exact⟨_,hD3⟩
 refine cQ (n:=(1+c0 % 4).toNat) (fun i σ H'=>∃ (ds:List Int) (shs:List (List Nat)) (ws:List V) (x3 x4 x5 x6:Option V),σ=[some (.ref d),some (.ref a),some (.ref D),x3,x4,x5,x6]/\Kp [d,D] H3 H'/\H' d=some (.lst (ds.map V.int))/\ds.length+i=cs2.length/\H' D=some (.lst ws)/\L2R (ShI H') shs ws/\shs.length=sg.length+i/\Shs sg.length shs)
  ⟨cs2,_,acc,none,none,none,none,rfl,Kp.refl _ _,hd3,rfl,hD3,hsh3,by rw[List.length_map,List.length_range];rfl,yH _⟩ ?_ ?_
 ·rintro i σ H' hi ⟨ds,shs,ws,x3,x4,x5,x6,rfl,kp,hd',ld,hD',hws,lsh,shok⟩
  have lws:=hws.len
  have hi4:i < 4:=by omega
  obtain⟨ds',c,rfl⟩:=bW (l:=ds) (by omega)
  rw[List.length_append,List.length_singleton] at ld
  have hd':H' d=some (.lst (ds'.map V.int++[.int c])):=by rw[hd',List.map_append];rfl
  refine⟨_,rfl,.inl ⟨rfl,_,SqL.of hd'⟩,d,_,.int c,rfl,rfl,hd',by simp,?_⟩
  dsimp only
  rw[List.dropLast_concat]
  have kp1:Kp [d,D] H3 (upd H' d (.lst (ds'.map V.int))):=kp.upd (by simp)
  have hd1':=aa (H:=H') (a:=d) (o:=.lst (ds'.map V.int))
  have hD1:upd H' d (.lst (ds'.map V.int)) D=some (.lst ws):=by rw[av nDd];exact hD'
  have T1:SameT H' (upd H' d (.lst (ds'.map V.int))):=aI hd'
  have hws1:=hws.imp fun _ _ h=>ShI.same T1 h
  generalize upd H' d (.lst (ds'.map V.int))=G1 at kp1 hd1' hD1 hws1 ⊢
  have haG:=kp1.T LST _ _ ha3
  have b0:=Int.emod_nonneg c (show (3:Int) ≠ 0 by decide)
  have b1:=Int.emod_lt_of_pos c (show (0:Int) < 3 by decide)
  refine⟨_,rfl,.inl ⟨rfl,_,SqL.of hD1⟩,_,rfl,_,_,rfl,rfl,(by show (0:Int) < 3;decide),_,_,rfl,rfl,_,rfl,by omega,by omega,fun E1 nE1=>?_⟩
  refine cr (fun j acc H''=>∃ sh:List Nat,acc=atV sh/\sh.length=j/\(∀ x ∈ sh,x < sg.length)/\Same G1 H''/\H'' E1=some (.lst acc)) (bM (by omega)) ⟨[],rfl,rfl,(fun x hx=>nomatch hx),ac nE1 _,aa⟩ (fun j acc H'' ⟨sh,e,l,_,_,x⟩=>⟨x,by rw[e];unfold atV;rw[List.length_map];exact l⟩) (fun j m acc H'' hj ⟨sh,e,l,hlt,sm,hE⟩ hm=>?_) (fun acc G2 ⟨sh,e,l,hlt,sm,hE⟩=>?_)
  ·have hj4:(j:Int) < 5:=by omega
   refine⟨_,rfl,_,rfl,_,_,rfl,rfl,.inl ⟨by decide,by decide⟩,_,_,rfl,rfl,_,_,rfl,rfl,⟨by omega,by omega⟩,_,rfl,a,us,rfl,.inr (SqT.of (sm _ _ haG)),_,_,rfl,rfl,(by show (0:Int) < (us.length:Int);omega),?_⟩
   have e0:=Int.emod_nonneg (c / (7+11 * (0+(j:Int)))) (show (us.length:Int) ≠ 0 by omega)
   have e1:=Int.emod_lt_of_pos (c / (7+11 * (0+(j:Int)))) (show (0:Int) < (us.length:Int) by omega)
   obtain⟨y,hy⟩:=Int.eq_ofNat_of_zero_le e0
   dsimp only
   rw[hy]
   refine eF hj hm hE ⟨sh++[y],?_,by rw[List.length_append,l];rfl,fun x hx=>?_,aN nE1 sm,aa⟩
   ·rw[e]
    show _=(sh++[y]).map _
    rw[List.map_append]
    rfl
   ·rcases List.mem_append.mp hx with g | g
    ·exact hlt x g
    ·rw[List.mem_singleton.mp g]
     omega
  ·subst e
   refine⟨E1,_,rfl,.inl ⟨SqL.of hE,fun t nt=>?_⟩⟩
   have st:=ac nt (.tup (atV sh))
   have smt:=sm.trans st
   have hDt:=smt _ _ hD1
   refine⟨D,ws,_,rfl,rfl,hDt,bM (by omega),?_⟩
   have tD:=aI (ys:=ws++[.ref t]) hDt
   refine⟨ds',shs++[sh],ws++[.ref t],_,_,_,_,rfl,(kp1.same smt).upd (by simp),by rw[av nDd.symm];exact smt _ _ hd1',by omega,aa,(hws1.imp fun _ _ h=>h.same ((au smt).trans tD)).snoc ⟨t,rfl,tD _ _ aa⟩,by rw[List.length_append,List.length_singleton];omega,shok.snoc (fun z=>?_) (by omega) hlt⟩
   rw[z] at l
   simp at l
   omega
 rintro σ H5 ⟨ds,shs,ws,x3,x4,x5,x6,rfl,kp,hd',ld,hD',hws,lsh,shok⟩
 have lws:=hws.len
 obtain⟨ds',c,rfl⟩:=bW (l:=ds) (by omega)
 rw[List.length_append,List.length_singleton] at ld
 have hd':H5 d=some (.lst (ds'.map V.int++[.int c])):=by rw[hd',List.map_append];rfl
 refine⟨_,rfl,.inl ⟨rfl,_,SqL.of hd'⟩,d,_,.int c,rfl,rfl,hd',by simp,?_⟩
 dsimp only
 rw[List.dropLast_concat]
 have kp1:Kp [d,D] H3 (upd H5 d (.lst (ds'.map V.int))):=kp.upd (by simp)
 have hd6:=aa (H:=H5) (a:=d) (o:=.lst (ds'.map V.int))
 have hD6:upd H5 d (.lst (ds'.map V.int)) D=some (.lst ws):=by rw[av nDd];exact hD'
 have T56:SameT H5 (upd H5 d (.lst (ds'.map V.int))):=aI hd'
 have hws6:=hws.imp fun _ _ h=>ShI.same T56 h
 have T36:=kp1.T LST
 have ha6:=T36 _ _ ha3
 have hus6:=hus3.imp fun _ _ h=>SgIs.same T36 h
 have k6:Kp [d] H (upd H5 d (.lst (ds'.map V.int))):=fun b o hb hB=>kp1 b o (by simp;exact⟨by simpa using hb,aG hB D0⟩) (k3 b o hb hB)
 generalize upd H5 d (.lst (ds'.map V.int))=H6 at kp1 hd6 hD6 hws6 ha6 hus6 k6 ⊢
 refine⟨_,rfl,D,ws,rfl,.inl (SqL.of hD6),_,rfl,by omega,by omega,fun F nF=>?_⟩
 have nFd:F ≠ d:=bj hd6 nF
 have nFD:F ≠ D:=bj hD6 nF
 have F0:H F=none:=k6.free nF (by simpa using nFd)
 refine cr (fun i acc H'=>∃ (fm:List Fm) (es:List Int),fm.length=i/\(∀ (j:Nat) f,fm[j]?=some f->f.nm=wrd c j)/\(∀ f ∈ fm,∃ ss,FormG sg f ss)/\(∀ (k:Nat) s,k < i->sg[k]?=some s->∃ f,fm[k]?=some f/\f.hd=s.nm/\f.br=[])/\L2R (FmIs H') fm acc/\Kp [d,F] H6 H'/\H' F=some (.lst acc)/\H' d=some (.lst (es.map V.int))/\ds'.length <= es.length+cst sg.length i/\es.length <= 140) (bM (by omega)) ⟨[],ds',rfl,(fun j f h=>by simp at h),(fun f h=>nomatch h),(fun k s h=>absurd h (Nat.not_lt_zero k)),.nil,(Kp.refl _ _).upd (by simp),aa,by rw[av nFd.symm];exact hd6,Nat.le_add_right _ _,by omega⟩ (fun i acc H' ⟨fm,es,l,_,_,_,r,_,x,_⟩=>⟨x,by rw[r.len,l]⟩) (fun i m acc H' hi ⟨fm,es,l,nms,fg,ones,r,kpF,hF,hde,lde,le140⟩ hm=>?_) (fun acc H7 ⟨fm,es,l,nms,fg,ones,r,kpF,hF,hde,lde,le140⟩=>?_)
 ·have hi':i < shs.length:=by omega
  obtain⟨sh,hsh⟩:=aH hi'
  obtain⟨h1,h2,h3⟩:=shok.all sh (List.mem_of_getElem? hsh)
  have lsh1:1 <= sh.length:=List.length_pos_iff.mpr h1
  have TF:SameT H6 H':=fun b xs e=>kpF b _ (by simp;exact⟨eJ e hd6 (fun z=>nomatch z),aG e nF⟩) e
  obtain⟨v,hv,sl,rfl,hsl⟩:=cF hws6 hsh
  have hDi:=kpF _ _ (by simp;exact⟨nDd,nFD.symm⟩) hD6
  have cs4:cst sg.length i+(4 * sh.length+1) <= cst sg.length (i+1)/\cst sg.length i <= 70:=by
   unfold cst
   by_cases hin:i < sg.length
   ·have:=shok.one i hin
    rw[hsh] at this
    cases this
    simp only[List.length_singleton]
    omega
   ·omega
  refine⟨_,rfl,_,rfl,_,rfl,c,_,rfl,_,rfl,_,rfl,D,_,_,_,rfl,rfl,SqL.of hDi,(by rw[Int.zero_add];exact bt hv),_,rfl,a,sl,d,us,sg,sZ sg sh,sh,_,es,rfl,TF _ _ ha6,hus6.imp fun _ _ h=>SgIs.same TF h,TF _ _ hsl,gr h3,lsh1,h2,sgg.g,hde,by omega,le140,fun v f es' H8 k8 hd8 le8 le8' hf8 nm8 fg8=>?_⟩
  have hF8:=k8 _ _ (by simpa using nFd) hF
  have T8:SameT H' H8:=k8.T fun x hx=>by rw[List.mem_singleton.mp hx];exact⟨_,hde⟩
  have tF:=aI (ys:=acc++[v]) hF8
  have fmG:FormG sg f (sZ sg sh):=⟨(gr h3).mem,fg8,by rw[(gr h3).l];exact lsh1,by rw[(gr h3).l];exact h2⟩
  refine eF hi hm hF8 ⟨fm++[f],es',by rw[List.length_append,l];rfl,fun j f' hj=>?_,fun f' hf'=>?_,fun k s hk hs=>?_,(r.imp fun _ _ h=>FmIs.same (T8.trans tF) h).snoc (FmIs.same tF hf8),(kpF.trans (k8.mono (by simp))).upd (by simp),aa,by rw[av nFd.symm];exact hd8,by omega,le8'⟩
  ·by_cases hjl:j < fm.length
   ·rw[List.getElem?_append_left hjl] at hj
    exact nms j f' hj
   ·rw[List.getElem?_append_right (by omega)] at hj
    have:j=i:=by
     have:=aD hj
     simp at this
     omega
    subst this
    rw[l,Nat.sub_self] at hj
    cases hj
    rw[nm8,Int.zero_add]
  ·rcases List.mem_append.mp hf' with h | h
   ·exact fg f' h
   ·rw[List.mem_singleton.mp h]
    exact⟨_,fmG⟩
  ·rcases Nat.lt_succ_iff_lt_or_eq.mp hk with hk | rfl
   ·obtain⟨f',h1',h2'⟩:=ones k s hk hs
    exact⟨f',by rw[List.getElem?_append_left (by omega)];exact h1',h2'⟩
   ·refine⟨f,by rw[List.getElem?_append_right (by omega),l,Nat.sub_self];rfl,?_⟩
    have h1':=shok.one k (aD hs)
    rw[hsh] at h1'
    cases h1'
    have e1:=fg8.nm
    have e2:sZ sg [k]=[s]:=by
     unfold sZ
     rw[List.map_cons,List.map_nil,List.getD_eq_getElem?_getD,hs]
     rfl
    rw[e2] at e1
    have e3:=List.cons.inj (show [s.nm]=f.hd::f.br from e1)
    exact⟨e3.1.symm,e3.2.symm⟩
 ·have T67:SameT H6 H7:=fun b xs e=>kpF b _ (by simp;exact⟨eJ e hd6 (fun z=>nomatch z),aG e nF⟩) e
  refine⟨_,rfl,_,rfl,F,acc,rfl,.inl ⟨SqL.of hF,fun t7 nt7=>⟨(by show 2 <= sizeLine;decide),fun t8 nt8=>?_⟩⟩⟩
  have s7:=ac nt7 (.tup acc)
  have s8:=ac nt8 (.tup [.ref a,.ref t7])
  have s78:=s7.trans s8
  have hcst:cst sg.length (ws.length:Int).toNat <= 90:=by unfold cst;omega
  refine q _ ⟨sg,fm⟩ es _ (fun b o hb hB=>s78 _ _ (kpF b o (by simp;exact⟨by simpa using hb,aG hB F0⟩) (k6 b o hb hB))) ⟨t8,a,t7,us,acc,rfl,aa,s78 _ _ (T67 _ _ ha6),hus6.imp fun _ _ h=>SgIs.same (T67.trans (au s78)) h,s8 _ _ aa,r.imp fun _ _ h=>FmIs.same (au s78) h⟩ ⟨sgg,⟨c,nms⟩,fg,fun k s hs=>ones k s (by have:k < sg.length:=aD (xs:=sg) hs;omega) hs,by show fm.length <= 10;omega⟩ (s78 _ _ hde) (by omega)
end
theorem gJ:∀ (ss:List Sg) (k:Nat) (x:Int) (n:Str),(x,n) ∈ dj k ss ↔ ∃ (i:Nat) (s:Sg),ss[i]?=some s/\x=((k+i:Nat):Int)/\n ∈ (if k+i=0 then pM s else vx s)
 | [],k,x,n=>by
  rw[dj]
  constructor
  ·intro h;cases h
  ·rintro⟨i,s,h,_⟩;simp at h
 | s::r,k,x,n=>by
  rw[dj,List.mem_append,gJ r (k+1) x n]
  constructor
  ·rintro (h | ⟨i,s',h1,h2,h3⟩)
   ·obtain⟨p,hp,e⟩:=List.mem_map.mp h
    cases e
    refine⟨0,s,rfl,rfl,?_⟩
    rw[Nat.add_zero]
    split at hp
    ·rename_i h0;rw[if_pos h0];exact List.mem_map.mpr ⟨p,hp,rfl⟩
    ·rename_i h0;rw[if_neg h0];exact List.mem_map.mpr ⟨p,hp,rfl⟩
   ·refine⟨i+1,s',by simpa using h1,by rw[h2];omega,?_⟩
    rw[show k+(i+1)=k+1+i by omega]
    exact h3
  ·rintro⟨i,s',h1,h2,h3⟩
   cases i with
   | zero=>
    simp at h1
    subst h1
    rw[Nat.add_zero] at h3 h2
    left
    split at h3
    ·rename_i h0
     obtain⟨p,hp,rfl⟩:=List.mem_map.mp h3
     rw[if_pos h0]
     exact List.mem_map.mpr ⟨p,hp,by rw[h2]⟩
    ·rename_i h0
     obtain⟨p,hp,rfl⟩:=List.mem_map.mp h3
     rw[if_neg h0]
     exact List.mem_map.mpr ⟨p,hp,by rw[h2]⟩
   | succ i=>
    right
    refine⟨i,s',by simpa using h1,by rw[h2];omega,?_⟩
    rw[show k+1+i=k+(i+1) by omega]
    exact h3
theorem pe:∀ (ss:List Sg) (k:Nat),(∀ s ∈ ss,SgG s)->(dj k ss).Nodup
 | [],k,_=>by rw[dj];exact List.nodup_nil
 | s::r,k,h=>by
  rw[dj]
  have hs:=(h s (by simp)).nd
  rw[List.map_append] at hs
  obtain⟨d1,d2,_⟩:=List.nodup_append.mp hs
  refine List.nodup_append.mpr ⟨?_,pe r (k+1) fun x hx=>h x (by simp[hx]),fun a ha b hb e=>?_⟩
  ·split
   ·exact List.pairwise_map.mpr ((List.pairwise_map.mp d2).imp fun h e=>h (Prod.mk.inj e).2)
   ·exact List.pairwise_map.mpr ((List.pairwise_map.mp d1).imp fun h e=>h (Prod.mk.inj e).2)
  ·obtain⟨p,_,rfl⟩:=List.mem_map.mp ha
   obtain⟨x,n⟩:=b
   obtain⟨i,s',_,h2,_⟩:=(gJ r (k+1) x n).mp hb
   have:=(Prod.mk.inj e).1
   omega
theorem tN {α:Type} {l:List α} {t:Nat} {x:α}:x ∈ l.drop t++l.take t ↔ x ∈ l:=by
 constructor
 ·intro h
  rcases List.mem_append.mp h with h | h
  ·exact List.mem_of_mem_drop h
  ·exact List.mem_of_mem_take h
 ·intro h
  rw[<- List.take_append_drop t l] at h
  exact List.mem_append.mpr (List.mem_append.mp h).symm
theorem wn {α:Type} {l:List α} {t:Nat} (h:l.Nodup):(l.drop t++l.take t).Nodup:=by
 rw[<- List.take_append_drop t l] at h
 obtain⟨h1,h2,h3⟩:=List.nodup_append.mp h
 exact List.nodup_append.mpr ⟨h2,h1,fun a ha b hb e=>h3 b hb a ha e.symm⟩
theorem FormG.due {g:Gr} (sn:(g.sg.map Sg.nm).Nodup) {f:Fm} {ss:List Sg} (h:FormG g.sg f ss) (k:Int) (n:Str):(k,n) ∈ dj 0 ss ↔ Due g f k n:=by
 rw[gJ]
 have e:=h.fm.nm
 have at_i:∀ (i:Nat) (s:Sg),ss[i]?=some s->(f.hd::f.br)[i]?=some s.nm/\sgT g s.nm=s:=fun i s hs=>by
  refine⟨by rw[<- e,List.getElem?_map,hs];rfl,nq sn (h.mem s (List.mem_of_getElem? hs))⟩
 constructor
 ·rintro⟨i,s,hs,rfl,hn⟩
  obtain⟨h1,h2⟩:=at_i i s hs
  cases i with
  | zero=>
   have h1:f.hd=s.nm:=Option.some.inj h1
   refine .inl ⟨rfl,?_⟩
   rw[h1,h2]
   simpa using hn
  | succ i=>
   have h1:f.br[i]?=some s.nm:=by simpa using h1
   refine .inr ⟨i,s.nm,h1,by omega,?_⟩
   rw[h2]
   rw[if_neg (by omega)] at hn
   exact hn
 ·rintro (⟨rfl,hn⟩ | ⟨i,b,hb,rfl,hn⟩)
  ·obtain⟨s,hs⟩:=aH (xs:=ss) (i:=0) (by have:=h.l1;omega)
   obtain⟨h1,h2⟩:=at_i 0 s hs
   have h1:f.hd=s.nm:=Option.some.inj h1
   refine⟨0,s,hs,rfl,?_⟩
   rw[h1,h2] at hn
   simpa using hn
  ·have hl:i+1 < ss.length:=by
    have:=congrArg List.length e
    rw[List.length_map,List.length_cons] at this
    have:=aD hb
    omega
   obtain⟨s,hs⟩:=aH hl
   obtain⟨h1,h2⟩:=at_i (i+1) s hs
   have h1:f.br[i]?=some s.nm:=by simpa using h1
   rw[hb] at h1
   have h1:b=s.nm:=Option.some.inj h1
   refine⟨i+1,s,hs,by omega,?_⟩
   rw[if_neg (by omega)]
   rw[h1,h2] at hn
   exact hn
theorem GrG.F {g:Gr} (h:GrG g):GrF g:=by
 have sn:=h.sg.nd
 obtain⟨w0,nw⟩:=h.nw
 have l10:=h.l10
 have mem_nm:∀ f ∈ g.fm,∀ b ∈ f.hd::f.br,∃ s ∈ g.sg,s.nm=b:=fun f hf b hb=>by
  obtain⟨ss,hss⟩:=h.fm f hf
  rw[<- hss.fm.nm] at hb
  obtain⟨s,hs,rfl⟩:=List.mem_map.mp hb
  exact⟨s,hss.mem s hs,rfl⟩
 refine⟨sn,oT nw (by omega),by have:=h.sg.l6;omega,l10,fun s hs=>(h.sg.g s hs).nd,fun s hs=>⟨(h.sg.g s hs).ld,(h.sg.g s hs).lu⟩,fun f hf=>mem_nm f hf _ (by simp),fun f hf=>⟨?_,fun b hb=>mem_nm f hf b (by simp[hb])⟩,fun f hf=>?_,fun f hf=>?_,fun f hf k n=>?_⟩
 ·obtain⟨ss,hss⟩:=h.fm f hf
  have:=congrArg List.length hss.fm.nm
  rw[List.length_map,List.length_cons] at this
  have:=hss.l4
  omega
 ·obtain⟨ss,hss⟩:=h.fm f hf
  obtain⟨t,ht⟩:=hss.fm.ru
  rw[show f.ru.map SP.keyR=f.ru.map keyR from rfl,ht]
  exact wn (pe ss 0 fun s hs=>h.sg.g s (hss.mem s hs))
 ·obtain⟨ss,hss⟩:=h.fm f hf
  obtain⟨t,ht⟩:=hss.fm.ru
  have e:=congrArg List.length ht
  rw[List.length_map,List.length_append,List.length_drop,List.length_take] at e
  have:=fu ss 0 fun s hs=>h.sg.g s (hss.mem s hs)
  have:=hss.l4
  omega
 ·obtain⟨ss,hss⟩:=h.fm f hf
  obtain⟨t,ht⟩:=hss.fm.ru
  rw[show f.ru.map SP.keyR=f.ru.map keyR from rfl,ht,tN]
  exact hss.due sn k n
theorem GrG.W {g:Gr} (h:GrG g):GrW g:=by
 obtain⟨w0,nw⟩:=h.nw
 refine⟨fun s hs=>⟨h.sg.nm s hs,fun n hn=>?_⟩,fun f hf=>?_,fun f hf r hr=>?_⟩
 ·obtain⟨p,hp,rfl⟩:=List.mem_map.mp hn
  exact ((h.sg.g s hs).ok p hp).1
 ·obtain⟨j,hj⟩:=List.getElem?_of_mem hf
  rw[nw j f hj]
  exact dE _ _
 ·obtain⟨ss,hss⟩:=h.fm f hf
  obtain⟨h1,h2,_⟩:=hss.fm.dp r hr
  exact⟨h1,by omega⟩
end K41
namespace K41
open PySem L2 TR FT SP
open TM
theorem gZ {α:Type} {B:Hp->α->V->Prop} {K:W.Frag} {a:Addr} {us:List V} {G:List α} {js:List Nat} {tc:TT} {te:TE} {σ:St} {Q:VK} {D:Addr} {H1:Hp} {R:Hp->α->V->Prop} (sB:∀ H H' f v,SameT H H'->B H f v->B H' f v) (st:∀ H H' f v,SameT H H'->R H f v->R H' f v) (pr:α->Bool) (hz:us.length < sizeLine) (ha:H1 a=some (.tup us)) (hus:L2R (B H1) G us) (hD:H1 D=none)
  (hc:∀ f v H,f ∈ G->B H f v->Same H1 H->∀ Q':Bool->Hp->Prop,(∀ H',Same H H'->Q' (pr f) H')->tc (some v::bh js σ) H Q')
  (he:∀ f v H,f ∈ G->B H f v->Same H1 H->∀ Q':VK,(∀ y H',Same H H'->R H' f y->Q' y H')->te (some v::bh js σ) H Q')
  (hq:∀ ys H',Same H1 H'->H' D=some (.lst ys)->L2R (R H') (G.filter pr) ys->Q (.ref D) H'):fK (Itt K a) js tc te σ Q D H1:=by
 have lus:=hus.len
 refine⟨fun i m acc H=>m=us.length - i/\i <= us.length/\Same H1 H/\H D=some (.lst acc)/\L2R (R H) ((G.take i).filter pr) acc,⟨us.length,by simp,Nat.zero_le _,ac hD _,aa,.nil⟩,?_⟩
 rintro i m acc H ⟨hm,hi,sm,hDi,hr⟩
 have la:=hr.len
 have lf:((G.take i).filter pr).length <= i:=Nat.le_trans (List.length_filter_le _ _) (by rw[List.length_take];omega)
 refine⟨hDi,by omega,?_⟩
 by_cases hlt:i < us.length
 ·refine .inr ⟨⟨us,us[i],SqT.of (sm _ _ ha),by simp[hlt]⟩,fun x H' y=>?_⟩
  obtain⟨e,y⟩:=y
  subst e
  have hx:=y us (SqT.of (sm _ _ ha))
  obtain⟨f,hf,hfi⟩:=hus.get hx
  have fm:=List.mem_of_getElem? hf
  refine hc f x _ fm (sB _ _ _ _ (au sm) hfi) sm _ fun H2 s2=>?_
  have hD2:=s2 _ _ hDi
  have et:(G.take (i+1)).filter pr=(G.take i).filter pr++[f].filter pr:=by rw[aJ hf,List.filter_append]
  cases hp:pr f with
  | true=>
   rw[if_pos rfl]
   refine he f x H2 fm (sB _ _ _ _ (au (sm.trans s2)) hfi) (sm.trans s2) _ fun y H3 s3 hR=>⟨s3 _ _ hD2,us.length - (i+1),by omega,rfl,by omega,aN hD (sm.trans (s2.trans s3)),aa,?_⟩
   have tD:=aI (ys:=acc++[y]) (s3 _ _ hD2)
   rw[et,List.filter_cons_of_pos hp,List.filter_nil]
   exact (hr.imp fun f v h=>st _ _ f v ((au (s2.trans s3)).trans tD) h).snoc (st _ _ _ _ tD hR)
  | false=>
   rw[if_neg (by simp)]
   refine⟨us.length - (i+1),by omega,rfl,by omega,sm.trans s2,hD2,?_⟩
   rw[et,List.filter_cons_of_neg (by simp[hp]),List.filter_nil,List.append_nil]
   exact hr.imp fun f v h=>st _ _ f v (au s2) h
 ·have e:i=us.length:=by omega
  subst e
  rw[lus,List.take_length] at hr
  exact .inl ⟨⟨us,SqT.of (sm _ _ ha),Nat.le_refl _⟩,hq acc H sm hDi hr⟩
theorem fk:∀ {G:List Fr} {ts:List Tr} {ss:List Str} {u:Tr} {s:Str},dQ G ts=some ss->fit G u=some s->dQ G (ts++[u])=some (ss++[s])
 | G,[],ss,u,s,h,hu=>by
  rw[dQ] at h
  cases h
  exact iE hu (by rw[dQ])
 | G,t::ts,ss,u,s,h,hu=>by
  rw[dQ] at h
  cases h1:fit G t with
  | none=>rw[h1] at h;cases h
  | some s1=>
   rw[h1] at h
   cases h2:dQ G ts with
   | none=>rw[h2] at h;cases h
   | some r=>
    rw[h2] at h
    cases h
    exact iE h1 (fk h2 hu)
theorem nu {c:TT} {t u rest:TS} {D:hX} {σ:St} {H:Hp} {A B:Prop} (R:St->Prop) (hrest:∀ σ',R σ'->rest D σ' H) (hc:∀ Q:Bool->Hp->Prop,(A->Q true H)->(B->Q false H)->c σ H Q) (h1:A->∀ D':hX,(∀ σ',R σ'->D'.nx σ' H)->t D' σ H) (h2:B->∀ D':hX,(∀ σ',R σ'->D'.nx σ' H)->u D' σ H):tSeq (tIfS c t u) rest D σ H:=
 hc _ (fun a=>mf (h1 a _ hrest)) (fun b=>hW (h2 b _ hrest))
def Bas (g:Gr) (s:Str):Prop:=∃ f0 r,(g.fm.filter fun f=>decide (f.hd=s))=f0::r/\f0.br=[]
structure Grw (g:Gr):Prop where
 nd:(g.fm.map Fm.nm).Nodup
 len:g.fm.length <= 10
 br:∀ f ∈ g.fm,f.br.length <= 3/\∀ b ∈ f.br,Bas g b
theorem GrG.bas {g:Gr} (h:GrG g) {k:Nat} {s:Sg} (hs:g.sg[k]?=some s):Bas g s.nm:=by
 obtain⟨f,hf,e1,e2⟩:=h.one k s hs
 have sn:=h.sg.nd
 have e:g.fm=g.fm.take k++f::g.fm.drop (k+1):=by
  obtain⟨hi,e⟩:=List.getElem?_eq_some_iff.mp hf
  rw[<- e,<- List.drop_eq_getElem_cons hi,List.take_append_drop]
 unfold Bas
 rw[e,List.filter_append]
 have e3:(g.fm.take k).filter (fun f=>decide (f.hd=s.nm))=[]:=by
  refine List.filter_eq_nil_iff.mpr fun f' hf'=>?_
  obtain⟨j,hj⟩:=List.getElem?_of_mem hf'
  have hjk:j < k:=by have:=aD hj;rw[List.length_take] at this;omega
  rw[List.getElem?_take,if_pos hjk] at hj
  obtain⟨s',hs'⟩:=aH (xs:=g.sg) (i:=j) (by have:=aD hs;omega)
  obtain⟨f2,hf2,e4,_⟩:=h.one j s' hs'
  rw[hj] at hf2
  cases hf2
  simp only[decide_eq_true_eq]
  intro z
  have z:s'.nm=s.nm:=by rw[<- e4,z]
  have:=uH sn (i:=j) (j:=k) (x:=s.nm) (by rw[List.getElem?_map,hs',<- z];rfl) (by rw[List.getElem?_map,hs];rfl)
  omega
 rw[e3,List.nil_append,List.filter_cons_of_pos (by simpa using e1)]
 exact⟨f,_,rfl,e2⟩
theorem GrG.Grw {g:Gr} (h:GrG g):Grw g:=by
 have F:=h.F
 refine⟨F.fn,h.l10,fun f hf=>⟨(F.br f hf).1,fun b hb=>?_⟩⟩
 obtain⟨s,hs,rfl⟩:=(F.br f hf).2 b hb
 obtain⟨k,hk⟩:=List.getElem?_of_mem hs
 exact h.bas hk
def mZ (n:Nat):Sp:=fun vs H Q _=>∃ (g:Gr) (vg:V) (sg:Str) (d rm:Addr) (room:Nat) (cs:List Int),vs=[vg,.str sg,.ref d,.ref rm]/\GrIs H g vg/\Grw g/\Bas g sg/\room <= n/\room <= 100/\d ≠ rm/\H d=some (.lst (cs.map V.int))/\H rm=some (.lst [.int (room:Int)])/\2 * room+2 <= cs.length /\
 ∀ t v (cs':List Int) (room':Nat) H',Kp [d,rm] H H'->TrIs H' t v->fit (frs g) t=some sg->size t+room'=room+1->H' d=some (.lst (cs'.map V.int))->cs'.length+2 * size t=cs.length->H' rm=some (.lst [.int (room':Int)])->Q v H'
section
variable {P:Program} {w:World} {K:W.Frag} {mg:Str->Option Value} {base:Heap} {T:Adr}
theorem qK (X:Tx K mg T):∀ n:Nat,FnOk P w K mg base CX0 (n+1) T.qAS T.d_qAS ["_law_grammar_here", "_law_sign", "_law_deck_here", "_law_room"] (mZ n):=by
 have step:∀ (n:Nat) (sp:Sp),FnOk P w K mg base CX0 n T.qAS T.d_qAS ["_law_grammar_here", "_law_sign", "_law_deck_here", "_law_room"] sp->(∀ (g:Gr) (vg:V) (sg:Str) (d rm:Addr) (room:Nat) (cs:List Int) (H:Hp) (Q:VK) (E:XK),GrIs H g vg->Grw g->Bas g sg->room < n->room <= 100->d ≠ rm->H d=some (.lst (cs.map V.int))->H rm=some (.lst [.int (room:Int)])->2 * room+2 <= cs.length ->
   (∀ t v (cs':List Int) (room':Nat) H',Kp [d,rm] H H'->TrIs H' t v->fit (frs g) t=some sg->size t+room'=room+1->H' d=some (.lst (cs'.map V.int))->cs'.length+2 * size t=cs.length->H' rm=some (.lst [.int (room':Int)])->Q v H')->sp [vg,.str sg,.ref d,.ref rm] H Q E)->FnOk P w K mg base CX0 (n+1) T.qAS T.d_qAS ["_law_grammar_here", "_law_sign", "_law_deck_here", "_law_room"] (mZ n):=by
  intro n sp G_qAS hsp
  refine X.F_qAS.okQ sc_qAS (fun vs H Q E h=>?_) (fun cdv A outer s H vs Q E hr h=>?_)
  ·obtain⟨_,_,_,_,_,_,_,rfl,_⟩:=h
   rfl
  obtain⟨g,vg,sg,d,rm,room,cs,rfl,hg,gw,bas,hL,r100,ndr,hd,hrm,hroom,q⟩:=h
  refine⟨_,(ag (dL (ys:=["_law_sign"]) (js:=[1]) rfl rfl (cw (ao ar (qv 0) af (fun _ _=>rfl))) (fun _ _ _ _ _=>db (aK bL (ao (bF (K:=K) rfl) (qv 0) af (fun _ _=>rfl)) (qv 1) (aP _))) (fun _ _ _ _ _=>(qv 0)) (az (i:=4) sc_qAS.nd rfl (Or.inl rfl)) rfl) (ag (am (i:=5) sc_qAS.nd rfl (Or.inl rfl) (ao aS (qv 4) (aj aM (cL PySem.F.plainAttrs_list PySem.F.slot_list_pop PySem.F.type_list_pop cN (qv 2)) (ax call_len_seq rfl X.z_len PySem.boot_len (qaN (qv 4) ae))) (fun _ _=>rfl))) (ag (bp (aK xW (ax call_len_seq rfl X.z_len PySem.boot_len (qaS (ao ar (qv 5) af (fun _ _=>rfl)) ae)) (ao aS (qv 3) af (fun _ _=>rfl)) (aP _)) (ai (am (i:=5) sc_qAS.nd rfl (Or.inl rfl) (ao aS (qv 4) af (fun _ _=>rfl)))) aL) (ag (ik (aj cx (ao aS (qv 3) af (fun _ _=>rfl)) (ax call_len_seq rfl X.z_len PySem.boot_len (qaS (ao ar (qv 5) af (fun _ _=>rfl)) ae))) (wx (qv 3) af pY)) (ag (am (i:=6) sc_qAS.nd rfl (Or.inl rfl) (cL PySem.F.plainAttrs_list PySem.F.slot_list_pop PySem.F.type_list_pop cN (qv 2))) (ag (am (i:=7) sc_qAS.nd rfl (Or.inl rfl) (ao aS (aV (qaC af (qaB (aj aM (aj aO (qv 6) af) af) (qaB (aj aM (qv 6) (aj iq af af)) ae)))) (aj aM (qv 6) af) (fun _ _=>rfl))) (ai (ay (ak (qaS (ao ar (qv 5) af (fun _ _=>rfl)) (qaN (qv 7) (qaK (aY aT rfl X.z_tuple PyProof.Rows.boot_tuple (qaE (bH (ys:=["_law_grammar_here", "_law_deck_here", "_law_room"]) (js:=[0,2,3]) rfl rfl (cw (ao ar (qv 5) af (fun _ _=>rfl))) (fun _ _ _ _ _=>bE) (fun _ _ _ _ _=>(aq G_qAS hr rfl X.m_qAS X.F_qAS.kp X.b_qAS .nil aW (qaN (qv 1) (qaN (qv 0) (qaN (qv 2) (qaN (qv 3) ae))))))) ae)) ae)))))))))))),?_⟩
  dsimp only[cm]
  have hg0:=hg
  obtain⟨gp,sa,fa,sus,fus,rfl,hg1,hsa,hsg,hfa,hfr⟩:=hg
  have lf:=hfr.len
  have lG:=gw.len
  obtain⟨f0,frest,hfil,hb0⟩:=bas
  refine⟨_,rfl,gp,_,1,_,rfl,rfl,SqT.of hg1,rfl,fa,rfl,⟨_,SqT.of hfa⟩,fun S nS=>?_⟩
  refine gZ (K:=K) (B:=FmIs) (a:=fa) (us:=fus) (G:=g.fm) (R:=FmIs) (fun _ _ _ _ e h=>FmIs.same e h) (fun _ _ _ _ e h=>FmIs.same e h) (fun f=>decide (f.hd=sg)) (bM (by omega)) hfa hfr nS (fun f' v' H2 fm' hf' s2 Q' k=>?_) (fun f' v' H2 fm' hf' s2 Q' k=>⟨_,rfl,k _ _ (Same.refl _) hf'⟩) (fun os H1 s1 hS hos=>?_)
  ·obtain⟨p,b,rr,us',rfl,hp,_⟩:=hf'
   refine⟨_,rfl,p,_,1,_,rfl,rfl,SqT.of hp,rfl,_,rfl,rfl,_,rfl,?_⟩
   have e:decide (V.str f'.hd=V.str sg)=decide (f'.hd=sg):=decide_eq_decide.mpr ⟨V.str.inj,fun z=>by rw[z]⟩
   rw[e]
   exact k _ (Same.refl _)
  have los:=hos.len
  rw[hfil,List.length_cons] at los
  obtain⟨cs1,c,rfl⟩:=bW (l:=cs) (by omega)
  rw[List.length_append,List.length_singleton] at hroom q
  have hd1:H1 d=some (.lst (cs1.map V.int++[.int c])):=by rw[s1 _ _ hd,List.map_append];rfl
  refine⟨_,rfl,_,rfl,.inl ⟨rfl,_,SqL.of hd1⟩,d,_,.int c,rfl,rfl,hd1,by simp,?_⟩
  dsimp only
  rw[List.dropLast_concat]
  have nSd:S ≠ d:=bj hd nS
  have nSr:S ≠ rm:=bj hrm nS
  have k2:Kp [d,rm] H (upd H1 d (.lst (cs1.map V.int))):=(Kp.of s1).upd (by simp)
  have T2:SameT H1 (upd H1 d (.lst (cs1.map V.int))):=aI hd1
  have hd2:=aa (H:=H1) (a:=d) (o:=.lst (cs1.map V.int))
  have hS2:upd H1 d (.lst (cs1.map V.int)) S=some (.lst os):=by rw[av nSd];exact hS
  have hr2:upd H1 d (.lst (cs1.map V.int)) rm=some (.lst [.int (room:Int)]):=by rw[av ndr.symm];exact s1 _ _ hrm
  have hos2:=hos.imp fun _ _ h=>FmIs.same T2 h
  have hg2:=GrIs.same ((au s1).trans T2) hg0
  generalize upd H1 d (.lst (cs1.map V.int))=H2 at k2 hd2 hS2 hr2 hos2 hg2 ⊢
  have m0:=Int.emod_nonneg c (show (os.length:Int) ≠ 0 by omega)
  have m1:=Int.emod_lt_of_pos c (show (0:Int) < (os.length:Int) by omega)
  obtain⟨k,hk⟩:=Int.eq_ofNat_of_zero_le m0
  obtain⟨vf,hvf⟩:=aH (xs:=os) (i:=k) (by omega)
  obtain⟨f,hff,fp,fb,frr,fru,rfl,hfp,hfb,_⟩:=hos2.get hvf
  have fmem:=List.mem_filter.mp (List.mem_of_getElem? hff)
  have fsg:f.hd=sg:=by simpa using fmem.2
  have f0mem:=List.mem_filter.mp (show f0 ∈ g.fm.filter fun f=>decide (f.hd=sg) by rw[hfil];exact List.mem_cons_self)
  have f0sg:f0.hd=sg:=by simpa using f0mem.2
  obtain⟨v0,hv0,fp0,fb0,frr0,fru0,rfl,hfp0,hfb0,_⟩:=cF hos2 (show (g.fm.filter fun f=>decide (f.hd=sg))[0]?=some f0 by rw[hfil];rfl)
  refine⟨_,rfl,S,os,rfl,.inl (SqL.of hS2),_,_,rfl,rfl,(by show (0:Int) < (os.length:Int);omega),S,_,_,_,rfl,rfl,SqL.of hS2,(by rw[hk];exact bt hvf),?_⟩
  dsimp only[gName]
  refine nu (A:=room < f.br.length) (B:=f.br.length <= room) (fun σ'=>∃ (f:Fm) (fp fb:Addr) (rr:V),σ'=[some (.ref gp),some (.str sg),some (.ref d),some (.ref rm),some (.ref S),some (.ref fp),none,none]/\f ∈ g.fm/\f.hd=sg/\H2 fp=some (.tup [.str f.nm,.str f.hd,.ref fb,rr])/\H2 fb=some (.tup (f.br.map V.str))/\f.br.length <= room) ?_ (fun Q' qT qF=>?_) (fun _ D' hn=>?_) (fun hB D' hn=>hn _ ⟨f,fp,fb,_,rfl,fmem.1,fsg,hfp,hfb,hB⟩)
  ·rintro σ' ⟨f,fp,fb,rr,rfl,fm,fsg,hfp,hfb,flen⟩
   have fbr:=gw.br f fm
   have ix0:ixN 1 0=some 0:=rfl
   refine⟨_,rfl,rm,_,0,.int (room:Int),rfl,rfl,SqL.of hr2,rfl,_,rfl,fp,_,2,_,rfl,rfl,SqT.of hfp,rfl,fb,_,rfl,.inr (SqT.of hfb),_,_,rfl,rfl,_,rfl,rm,_,0,0,rfl,rfl,hr2,ix0,?_⟩
   dsimp only
   rw[List.length_map,show (room:Int) - (f.br.length:Int)=((room - f.br.length:Nat):Int) by omega]
   have e1:([V.int (room:Int)]:List V).set 0 (.int ((room - f.br.length:Nat):Int))=[.int ((room - f.br.length:Nat):Int)]:=rfl
   rw[e1]
   have k3:Kp [d,rm] H (upd H2 rm (.lst [.int ((room - f.br.length:Nat):Int)])):=k2.upd (by simp)
   have T3:SameT H2 (upd H2 rm (.lst [.int ((room - f.br.length:Nat):Int)])):=aI hr2
   have hr3:=aa (H:=H2) (a:=rm) (o:=.lst [.int ((room - f.br.length:Nat):Int)])
   have hd3:upd H2 rm (.lst [.int ((room - f.br.length:Nat):Int)]) d=some (.lst (cs1.map V.int)):=by rw[av ndr];exact hd2
   have hfp3:=T3 _ _ hfp
   have hfb3:=T3 _ _ hfb
   have hg3:=GrIs.same T3 hg2
   generalize upd H2 rm (.lst [.int ((room - f.br.length:Nat):Int)])=H3 at k3 hr3 hd3 hfp3 hfb3 hg3 ⊢
   obtain⟨cs2,c2,rfl⟩:=bW (l:=cs1) (by omega)
   rw[List.length_append,List.length_singleton] at hroom q
   have hd3:H3 d=some (.lst (cs2.map V.int++[.int c2])):=by rw[hd3,List.map_append];rfl
   refine⟨_,rfl,.inl ⟨rfl,_,SqL.of hd3⟩,d,_,.int c2,rfl,rfl,hd3,by simp,?_⟩
   dsimp only
   rw[List.dropLast_concat]
   have k4:Kp [d,rm] H (upd H3 d (.lst (cs2.map V.int))):=k3.upd (by simp)
   have T4:SameT H3 (upd H3 d (.lst (cs2.map V.int))):=aI hd3
   have hd4:=aa (H:=H3) (a:=d) (o:=.lst (cs2.map V.int))
   have hr4:upd H3 d (.lst (cs2.map V.int)) rm=some (.lst [.int ((room - f.br.length:Nat):Int)]):=by rw[av ndr.symm];exact hr3
   have hfp4:=T4 _ _ hfp3
   have hfb4:=T4 _ _ hfb3
   have hg4:=GrIs.same T4 hg3
   generalize upd H3 d (.lst (cs2.map V.int))=H4 at k4 hr4 hd4 hfp4 hfb4 hg4 ⊢
   refine⟨_,rfl,_,_,rfl,rfl,⟨by decide,by decide⟩,_,_,rfl,rfl,(by show (0:Int) < 10;decide),_,rfl,_,_,rfl,rfl,⟨by decide,by decide,by decide⟩,_,_,rfl,rfl,(by show (0:Int) < 10 ^ Int.toNat 18;decide),(by show 3 <= sizeLine;decide),fun l1 n1=>?_⟩
   have t1:=ac n1 (.lst [.int 0,.int (c2 / 3 % 10),.int (c2 % 10 ^ Int.toNat 18)])
   obtain⟨mk,hmk⟩ : ∃ mk:Int,atI [V.int 0,V.int (c2 / 3 % 10),V.int (c2 % 10 ^ Int.toNat 18)] (c2 % 3)=some (.int mk):=by
    have:c2 % 3=0\/c2 % 3=1\/c2 % 3=2:=by omega
    rcases this with e | e | e <;> rw[e] <;> exact⟨_,rfl⟩
   refine⟨_,rfl,_,_,rfl,rfl,(by show (0:Int) < 3;decide),l1,_,_,.int mk,rfl,rfl,SqL.of aa,hmk,?_⟩
   have k5:=k4.same t1
   have hr5:=t1 _ _ hr4
   have hd5:=t1 _ _ hd4
   have hfp5:=t1 _ _ hfp4
   have hfb5:=t1 _ _ hfb4
   have hg5:=GrIs.same (au t1) hg4
   generalize upd H4 l1 (.lst [.int 0,.int (c2 / 3 % 10),.int (c2 % 10 ^ Int.toNat 18)])=H5 at k5 hr5 hd5 hfp5 hfb5 hg5 ⊢
   refine⟨_,rfl,fp,_,0,_,rfl,rfl,SqT.of hfp5,rfl,_,rfl,_,rfl,fp,_,2,_,rfl,rfl,SqT.of hfp5,rfl,fb,rfl,⟨_,SqT.of hfb5⟩,fun D nD=>?_⟩
   have nDd:D ≠ d:=bj hd5 nD
   have nDr:D ≠ rm:=bj hr5 nD
   have D0:H D=none:=k5.free nD (by simp;exact⟨nDd,nDr⟩)
   have TT:∀ {H':Hp},Kp [d,rm,D] H5 H'->SameT H5 H':=fun {H'} kp b xs e=>kp b _ (by
    simp
    exact⟨eJ e hd5 (fun z=>nomatch z),eJ e hr5 (fun z=>nomatch z),aG e nD⟩) e
   refine ko (K:=K) (a:=fb) (xs:=f.br.map V.str) (fun i acc H'=>i <= f.br.length/\Kp [d,rm,D] H5 H'/\H' D=some (.lst acc)/\∃ (ts:List Tr) (cs':List Int) (r':Nat),ts.length=i/\L2R (TrIs H') ts acc/\dQ (frs g) ts=some (f.br.take i)/\H' d=some (.lst (cs'.map V.int))/\cs'.length+2 * be ts=cs2.length/\H' rm=some (.lst [.int (r':Int)])/\be ts+r'=room - f.br.length+i) (bM (by rw[List.length_map];omega))
    ⟨Nat.zero_le _,(Kp.refl _ _).upd (by simp),aa,[],cs2,room - f.br.length,rfl,.nil,by rw[List.take_zero,dQ],by rw[av nDd.symm];exact hd5,by rw[be];rfl,by rw[av nDr.symm];exact hr5,by rw[be];omega⟩ (fun i acc H' ⟨li,kp,hD,ts,_,_,l,r,_⟩=>⟨hD,by rw[r.len,l],SqT.of (TT kp _ _ hfb5)⟩) (fun i m x acc H' hx ⟨li,kp,hD,ts,cs',r',lt,hts,hfits,hd',lc,hr',lr⟩ hm=>?_) (fun acc H' ⟨li,kp,hD,ts,cs',r',lt,hts,hfits,hd',lc,hr',lr⟩=>?_)
   ·rw[List.getElem?_map] at hx
    cases eb:f.br[i]? with
    | none=>rw[eb] at hx;cases hx
    | some b=>
     rw[eb] at hx
     cases hx
     have bm:=List.mem_of_getElem? eb
     have hib:=aD eb
     have sl:=dS ts
     refine⟨_,rfl,_,rfl,_,rfl,_,rfl,?_⟩
     refine hsp g _ b d rm r' cs' H' _ _ (GrIs.same (TT kp) hg5) gw (fbr.2 b bm) (by omega) (by omega) ndr hd' hr' (by omega) fun t v cs3 r2 H6 kp6 ht hft hsz hd6 lc6 hr6=>?_
     have T6:SameT H' H6:=kp6.T fun x hx=>by
      have hx:x=d\/x=rm:=by simpa using hx
      rcases hx with rfl | rfl
      ·exact⟨_,hd'⟩
      ·exact⟨_,hr'⟩
     have hD6:=kp6 _ _ (by simp;exact⟨nDd,nDr⟩) hD
     have tD:=aI (ys:=acc++[v]) hD6
     have es:be (ts++[t])=be ts+size t:=by rw[eR,be,be];omega
     refine eF (n:=(f.br.map V.str).length) (i:=i) (by rw[List.length_map];exact hib) hm hD6 ⟨by omega,(kp.trans (kp6.mono (by simp))).upd (by simp),aa,ts++[t],cs3,r2,by rw[List.length_append,lt];rfl,(hts.imp fun _ _ h=>TrIs.same (T6.trans tD) _ h).snoc (TrIs.same tD t ht),?_,by rw[av nDd.symm];exact hd6,by rw[es];omega,by rw[av nDr.symm];exact hr6,by rw[es];omega⟩
     rw[aJ eb]
     exact fk hfits hft
   ·rw[List.length_map] at lt hfits lr
    rw[List.take_length] at hfits
    have hfp6:=TT kp _ _ hfp5
    refine⟨D,_,rfl,.inl ⟨SqL.of hD,fun t5 n5=>⟨(by show 3 <= sizeLine;decide),fun t6 n6=>?_⟩⟩⟩
    have v1:=ac n5 (.tup acc)
    have v2:=ac n6 (.tup [.str f.nm,.int mk,.ref t5])
    have v12:=v1.trans v2
    have z1:size (.node f.nm mk ts)=1+be ts:=by rw[size]
    refine q (.node f.nm mk ts) _ cs' r' _ (fun b o hb hB=>v12 _ _ (kp b o (by simp;simp at hb;exact⟨hb.1,hb.2,aG hB D0⟩) (k5 b o hb hB))) (TrIs.cl aa (v2 _ _ aa) (hts.imp fun _ _ h=>TrIs.same (au v12) _ h)) ?_ (by rw[z1];omega) (v12 _ _ hd') (by rw[z1];omega) (v12 _ _ hr')
    rw[<- fsg]
    have hm:rZ f ∈ frs g:=List.mem_map.mpr ⟨f,fm,rfl⟩
    have hnd:(names (frs g)).Nodup:=by
     unfold names SP.frs
     rw[List.map_map]
     exact gw.nd
    exact oV (t:=.node f.nm mk ts) (f:=rZ f) (gR hnd hm) hfits
  ·refine⟨_,rfl,fp,_,2,_,rfl,rfl,SqT.of hfp,rfl,fb,_,rfl,.inr (SqT.of hfb),_,rfl,rm,_,0,.int (room:Int),rfl,rfl,SqL.of hr2,rfl,_,_,rfl,rfl,_,rfl,?_⟩
   rw[List.length_map]
   by_cases h:(room:Int) < (f.br.length:Int)
   ·rw[decide_eq_true h]
    exact qT (by omega)
   ·rw[decide_eq_false h]
    exact qF (by omega)
  ·exact⟨_,rfl,S,_,0,_,rfl,rfl,SqL.of hS2,bt hv0,hn _ ⟨f0,fp0,fb0,_,rfl,f0mem.1,f0sg,hfp0,hfb0,by rw[hb0];exact Nat.zero_le _⟩⟩
 intro n
 induction n with
 | zero=>exact step 0 (fun _ _ _ _=>False) ⟨fun _ _ _ _ h=>h.elim,fun _ _ _ _ _ _ _ _ _ _ _ _ _ h=>h.elim⟩ (fun g vg sg d rm room cs H Q E _ _ _ hL _ _ _ _ _ _=>by omega)
 | succ n ih=>exact step (n+1) _ ih fun g vg sg d rm room cs H Q E h1 h2 h3 h4 h5 h6 h7 h8 h9 h10=>⟨g,vg,sg,d,rm,room,cs,rfl,h1,h2,h3,by omega,h5,h6,h7,h8,h9,h10⟩
end
end K41
namespace K41
open PySem L2 TR FT SP
open TM
noncomputable def aC (c:Int):Str:=wrd (c / 7) 0
noncomputable def cC (c:Int):Str:=wrd (c / 7) 1
noncomputable def sC (c:Int):Str:=wrd (c / 11) 5
noncomputable def nC (c:Int):Str:=wrd (c / 13) 0
noncomputable def mC (c:Int):Str:=wrd (c / 13) 1
noncomputable def sgC (c:Int):Sg:=⟨sC c,[(aC c, "num")],[(cC c, "num")]⟩
noncomputable def dM (c:Int):Fm:=⟨nC c,sC c,[],[⟨0,cC c,.call "add" [.val 0 (aC c),.mark]⟩]⟩
noncomputable def cg (c:Int):Fm:=⟨mC c,sC c,[sC c,sC c,sC c],[⟨2,aC c,.val 1 (cC c)⟩,⟨1,aC c,.val 0 (aC c)⟩,⟨0,cC c,.val 3 (cC c)⟩,⟨3,aC c,.call "sub" [.val 2 (cC c),.mark]⟩]⟩
noncomputable def gC (c:Int):Gr:=⟨[sgC c],[dM c,cg c]⟩
theorem yg (c:Int):aC c ≠ cC c:=fun h=>by
 have:=eo (by decide) (by decide) (by decide) (by decide) h
 omega
theorem uE (c:Int):nC c ≠ mC c:=fun h=>by
 have:=eo (by decide) (by decide) (by decide) (by decide) h
 omega
theorem xP (c:Int):sgT (gC c) (sC c)=sgC c:=nq (g:=gC c) (by simp[gC]) (s:=sgC c) (by simp[gC])
theorem yW (c:Int):GrF (gC c):=by
 have hac:=yg c
 have hnm:=uE c
 have hs:=xP c
 refine⟨by simp[gC],?_,by simp[gC],by simp[gC],fun s hs=>?_,fun s hs=>?_,fun f hf=>?_,fun f hf=>?_,fun f hf=>?_,fun f hf=>?_,fun f hf k n=>?_⟩
 ·show ([nC c,mC c]:List Str).Nodup
  simp[hnm]
 ·have:s=sgC c:=by simpa [gC] using hs
  subst this
  show ([aC c,cC c]:List Str).Nodup
  simp[hac]
 ·have:s=sgC c:=by simpa [gC] using hs
  subst this
  exact⟨by show 1 <= 2;decide,by show 1 <= 2;decide⟩
 ·have:f=dM c\/f=cg c:=by simpa [gC] using hf
  rcases this with rfl | rfl
  ·exact⟨sgC c,by simp[gC],rfl⟩
  ·exact⟨sgC c,by simp[gC],rfl⟩
 ·have:f=dM c\/f=cg c:=by simpa [gC] using hf
  rcases this with rfl | rfl
  ·exact⟨by show 0 <= 3;decide,fun b hb=>nomatch hb⟩
  ·refine⟨by show 3 <= 3;decide,fun b hb=>⟨sgC c,by simp[gC],?_⟩⟩
   have hb:b=sC c:=by simpa [cg] using hb
   rw[hb]
   rfl
 ·have:f=dM c\/f=cg c:=by simpa [gC] using hf
  rcases this with rfl | rfl
  ·show ([(0,cC c)]:List (Int × Str)).Nodup
   simp
  ·show ([(2,aC c),(1,aC c),(0,cC c),(3,aC c)]:List (Int × Str)).Nodup
   simp
 ·have:f=dM c\/f=cg c:=by simpa [gC] using hf
  rcases this with rfl | rfl
  ·show 1 <= 10;decide
  ·show 4 <= 10;decide
 ·have:f=dM c\/f=cg c:=by simpa [gC] using hf
  have hU:pM (sgC c)=[cC c]:=rfl
  have hD:vx (sgC c)=[aC c]:=rfl
  rcases this with rfl | rfl
  ·unfold SP.Due
   rw[show (dM c).hd=sC c from rfl,hs,hU]
   show (k,n) ∈ ([(0,cC c)]:List (Int × Str)) ↔ _
   constructor
   ·intro h
    have h:=List.mem_singleton.mp h
    cases h
    exact .inl ⟨rfl,by simp⟩
   ·rintro (⟨rfl,h⟩ | ⟨i,b,hb,_⟩)
    ·rw[List.mem_singleton.mp h]
     simp
    ·simp[dM] at hb
  ·unfold SP.Due
   rw[show (cg c).hd=sC c from rfl,hs,hU]
   show (k,n) ∈ ([(2,aC c),(1,aC c),(0,cC c),(3,aC c)]:List (Int × Str)) ↔ _
   constructor
   ·intro h
    simp only[List.mem_cons,List.mem_nil_iff,or_false] at h
    rcases h with h | h | h | h <;> cases h
    ·exact .inr ⟨1,sC c,rfl,rfl,by rw[hs,hD];simp⟩
    ·exact .inr ⟨0,sC c,rfl,rfl,by rw[hs,hD];simp⟩
    ·exact .inl ⟨rfl,by simp⟩
    ·exact .inr ⟨2,sC c,rfl,rfl,by rw[hs,hD];simp⟩
   ·rintro (⟨rfl,h⟩ | ⟨i,b,hb,rfl,h⟩)
    ·rw[List.mem_singleton.mp h]
     simp
    ·have hbb:b=sC c:=by
      have:=List.mem_of_getElem? hb
      simpa [cg] using this
     rw[hbb,hs,hD] at h
     rw[List.mem_singleton.mp h]
     have hi:i < 3:=aD hb
     have:i=0\/i=1\/i=2:=by omega
     rcases this with rfl | rfl | rfl <;> simp
theorem yV (c:Int):GrW (gC c):=by
 refine⟨fun s hs=>?_,fun f hf=>?_,fun f hf r hr=>?_⟩
 ·have:s=sgC c:=by simpa [gC] using hs
  subst this
  refine⟨dE _ _,fun n hn=>?_⟩
  have hn:n=aC c\/n=cC c:=by simpa [cY,sgC] using hn
  rcases hn with rfl | rfl <;> exact dE _ _
 ·have:f=dM c\/f=cg c:=by simpa [gC] using hf
  rcases this with rfl | rfl <;> exact dE _ _
 ·have:f=dM c\/f=cg c:=by simpa [gC] using hf
  have hv:∀ (k:Int) (z:Str),TB [(k,z)] 12 1000 (.val k z):=fun k z=>(TB.val (by simp)).le (by decide) (by decide)
  have hw:∀ (w:Str) (k:Int) (z:Str),TB [(k,z)] 12 1000 (.call w [.val k z,.mark]):=fun w k z=>((TB.val (by simp)).call2 TB.mark).le (by decide) (by decide)
  rcases this with rfl | rfl
  ·have:r=⟨0,cC c,.call "add" [.val 0 (aC c),.mark]⟩:=by simpa [dM] using hr
   subst this
   exact⟨(hw _ _ _).dp,(hw _ _ _).pt⟩
  ·have:r=⟨2,aC c,.val 1 (cC c)⟩\/r=⟨1,aC c,.val 0 (aC c)⟩\/r=⟨0,cC c,.val 3 (cC c)⟩\/r=⟨3,aC c,.call "sub" [.val 2 (cC c),.mark]⟩:=by simpa [cg] using hr
   rcases this with rfl | rfl | rfl | rfl
   ·exact⟨(hv _ _).dp,(hv _ _).pt⟩
   ·exact⟨(hv _ _).dp,(hv _ _).pt⟩
   ·exact⟨(hv _ _).dp,(hv _ _).pt⟩
   ·exact⟨(hw _ _ _).dp,(hw _ _ _).pt⟩
theorem rc (c:Int) (mk:Int):fit (frs (gC c)) (.node (nC c) mk [])=some (sC c):=by
 have hnd:(names (frs (gC c))).Nodup:=by
  show ([nC c,mC c]:List Str).Nodup
  simp[uE c]
 exact oV (t:=.node (nC c) mk []) (f:=rZ (dM c)) (gR hnd (f:=rZ (dM c)) (by simp[SP.frs,gC])) (by show dQ _ []=some [];rw[dQ])
theorem oU (c:Int) (mk:Int) {ts:List Tr} (h:dQ (frs (gC c)) ts=some [sC c,sC c,sC c]):fit (frs (gC c)) (.node (mC c) mk ts)=some (sC c):=by
 have hnd:(names (frs (gC c))).Nodup:=by
  show ([nC c,mC c]:List Str).Nodup
  simp[uE c]
 exact oV (t:=.node (mC c) mk ts) (f:=rZ (cg c)) (gR hnd (f:=rZ (cg c)) (by simp[SP.frs,gC])) h
def ng:Sp:=fun vs H Q _=>∃ c:Int,vs=[.int c]/\∀ v H',Same H H'->GrIs H' (gC c) v->Q v H'
def rO (m:Nat):Sp:=fun vs H Q _=>∃ (c0:Int) (fa:Addr) (fus:List V) (n:Nat) (c:Int),vs=[.ref fa,.int (n:Int),.int c]/\H fa=some (.tup fus)/\L2R (FmIs H) (gC c0).fm fus/\n <= m/\n <= 1000/\∀ t v H',Same H H'->TrIs H' t v->fit (frs (gC c0)) t=some (sC c0)->size t=3 * n+1->Q v H'
section
variable {P:Program} {w:World} {K:W.Frag} {mg:Str->Option Value} {base:Heap} {T:Adr}
theorem lZ (X:Tx K mg T):FnOk P w K mg base CX0 2 T.qAG T.d_qAG ["_law_cell"] ng:=by
 have G_qBK:=gF (P:=P) (w:=w) (base:=base) X
 refine X.F_qAG.okQ sc_qAG (fun vs H Q E h=>?_) (fun cdv A outer s H vs Q E hr h=>?_)
 ·obtain⟨_,rfl,_⟩:=h
  rfl
 obtain⟨c,rfl,q⟩:=h
 refine⟨_,(ag (ik (bH (ys:=["_law_cell"]) (js:=[0]) rfl rfl (aX rfl X.z_range (qaC af ae)) (fun _ _ _ _ _=>bE) (fun _ _ _ _ _=>(aq G_qBK hr rfl X.m_qBK X.F_qBK.kp X.b_qBK .nil aW (qaB (aj aO (qv 1) af) (qaN (qv 0) ae))))) (wy rfl (aQ (az (i:=1) sc_qAG.nd rfl (Or.inl rfl)) (aQ (az (i:=2) sc_qAG.nd rfl (Or.inl rfl)) bY)))) (ag (am (i:=3) sc_qAG.nd rfl (Or.inl rfl) (aq G_qBK hr rfl X.m_qBK X.F_qBK.kp X.b_qBK .nil aW (qaB (aj aO (qv 0) af) (qaC af ae)))) (ag (dL (ys:=["_law_cell"]) (js:=[0]) rfl rfl (aX rfl X.z_range (qaC af ae)) (fun _ _ _ _ _=>bE) (fun _ _ _ _ _=>(aq G_qBK hr rfl X.m_qBK X.F_qBK.kp X.b_qBK .nil aW (qaB (aj aO (qv 1) af) (qaN (qv 0) ae)))) (az (i:=4) sc_qAG.nd rfl (Or.inl rfl)) rfl) (ag (am (i:=5) sc_qAG.nd rfl (Or.inl rfl) (ak (qaT (ak (qaC af (qaN (qv 2) (qaT (ak (qaC aw (qaC aw (qaT (ak (qaT (ak (qaC aw (qaC af (qaN (qv 1) ae)))) (qaT (ak (qaC aw ae)) ae))) ae)))) ae)))) ae))) (ag (am (i:=6) sc_qAG.nd rfl (Or.inl rfl) (ak (qaT (ak (qaC af (qaN (qv 1) (qaT (ak (qaC aw (qaC af (qaN (qv 2) ae)))) ae)))) (qaT (ak (qaC af (qaN (qv 1) (qaT (ak (qaC aw (qaC af (qaN (qv 1) ae)))) ae)))) (qaT (ak (qaC af (qaN (qv 2) (qaT (ak (qaC aw (qaC af (qaN (qv 2) ae)))) ae)))) ae))))) (ag (am (i:=6) sc_qAG.nd rfl (Or.inl rfl) (aj cy (qv 6) (ak (qaT (ak (qaC af (qaN (qv 1) (qaT (ak (qaC aw (qaC aw (qaT (ak (qaT (ak (qaC aw (qaC af (qaN (qv 2) ae)))) (qaT (ak (qaC aw ae)) ae))) ae)))) ae)))) ae)))) (ag (am (i:=7) sc_qAG.nd rfl (Or.inl rfl) (ak (qaT (ak (qaS (ao aS (qv 4) af (fun _ _=>rfl)) (qaN (qv 3) (qaT (ak ae) (qaN (qv 5) ae))))) (qaT (ak (qaS (ao aS (qv 4) af (fun _ _=>rfl)) (qaN (qv 3) (qaT (ak (qaN (qv 3) (qaN (qv 3) (qaN (qv 3) ae)))) (qaN (qv 6) ae))))) ae)))) (ai (ay (ak (qaT (ak (qaT (ak (qaN (qv 3) (qaT (ak (qaT (ak (qaN (qv 1) (qaC aw ae))) ae)) (qaT (ak (qaT (ak (qaN (qv 2) (qaC aw ae))) ae)) ae)))) ae)) (qaN (qv 7) ae)))))))))))),?_⟩
 dsimp only[cm]
 refine⟨_,rfl,(by decide),(by decide),fun D1 n1=>?_⟩
 refine cr (fun i acc G=>acc=([V.str (aC c),V.str (cC c)]:List V).take i/\i <= 2/\Same H G/\G D1=some (.lst acc)) (by decide) ⟨rfl,by decide,ac n1 _,aa⟩ (fun i acc G ⟨e,l,_,d⟩=>⟨d,by rw[e,List.length_take];show min i 2=i;omega⟩) ?_ ?_
 ·rintro i m acc G hi ⟨e,l,sm,dd⟩ hm
  have hi:i < 2:=hi
  refine⟨_,rfl,_,_,rfl,rfl,⟨by decide,by decide⟩,_,rfl,_,_,rfl,?_⟩
  refine eF (n:=2) hi hm dd ⟨?_,by omega,aN n1 sm,aa⟩
  have:i=0\/i=1:=by omega
  rcases this with rfl | rfl
  ·rw[e];rfl
  ·rw[e];rfl
 rintro acc H1 ⟨e,_,s1,hD1⟩
 have e:acc=[V.str (aC c),V.str (cC c)]:=e
 subst e
 refine⟨D1,_,rfl,SqL.of hD1,rfl,_,_,rfl,_,_,rfl,rfl,?_⟩
 refine⟨_,rfl,_,_,rfl,rfl,⟨by decide,by decide⟩,_,_,rfl,?_⟩
 dsimp only
 rw[show wrd (c / 11) 5=sC c from rfl]
 refine⟨_,rfl,(by decide),(by decide),fun D2 n2=>?_⟩
 refine cr (fun i acc G=>acc=([V.str (nC c),V.str (mC c)]:List V).take i/\i <= 2/\Same H1 G/\G D2=some (.lst acc)) (by decide) ⟨rfl,by decide,ac n2 _,aa⟩ (fun i acc G ⟨e,l,_,d⟩=>⟨d,by rw[e,List.length_take];show min i 2=i;omega⟩) ?_ ?_
 ·rintro i m acc G hi ⟨e,l,sm,dd⟩ hm
  have hi:i < 2:=hi
  refine⟨_,rfl,_,_,rfl,rfl,⟨by decide,by decide⟩,_,rfl,_,_,rfl,?_⟩
  refine eF (n:=2) hi hm dd ⟨?_,by omega,aN n2 sm,aa⟩
  have:i=0\/i=1:=by omega
  rcases this with rfl | rfl
  ·rw[e];rfl
  ·rw[e];rfl
 rintro acc H2 ⟨e,_,s2,hD2⟩
 have e:acc=[V.str (nC c),V.str (mC c)]:=e
 subst e
 have s12:=s1.trans s2
 refine⟨_,rfl,_,rfl,(by show 3 <= sizeLine;decide),fun a1 h1=>⟨(by show 1 <= sizeLine;decide),fun a2 h2=>⟨(by show 2 <= sizeLine;decide),fun a3 h3=>⟨(by show 3 <= sizeLine;decide),fun a4 h4=>⟨(by show 3 <= sizeLine;decide),fun a5 h5=>⟨(by show 1 <= sizeLine;decide),fun a6 h6=>?_⟩⟩⟩⟩⟩⟩
 have u1:=ac h1 (.tup [.str "of",.int 0,.str (aC c)])
 have u2:=ac h2 (.tup [.str "mark"])
 have u3:=ac h3 (.tup [.ref a1,.ref a2])
 have u4:=ac h4 (.tup [.str "call",.str "add",.ref a3])
 have u5:=ac h5 (.tup [.int 0,.str (cC c),.ref a4])
 have u6:=ac h6 (.tup [.ref a5])
 have uA:=u1.trans (u2.trans (u3.trans (u4.trans (u5.trans u6))))
 have R1:RuIs _ ⟨0,cC c,.call "add" [.val 0 (aC c),.mark]⟩ (.ref a5):=⟨a5,.ref a4,rfl,u6 _ _ aa,cH ((u5.trans u6) _ _ aa) ((u4.trans (u5.trans u6)) _ _ aa) (by show 2 <= 1000;decide) (vB (fO ((u2.trans (u3.trans (u4.trans (u5.trans u6)))) _ _ aa)) (dI ((u3.trans (u4.trans (u5.trans u6))) _ _ aa)))⟩
 have g6:=aa (H:=upd (upd (upd (upd (upd H2 a1 (.tup [.str "of",.int 0,.str (aC c)])) a2 (.tup [.str "mark"])) a3 (.tup [.ref a1,.ref a2])) a4 (.tup [.str "call",.str "add",.ref a3])) a5 (.tup [.int 0,.str (cC c),.ref a4])) (a:=a6) (o:=.tup [.ref a5])
 generalize upd (upd (upd (upd (upd (upd H2 a1 (.tup [.str "of",.int 0,.str (aC c)])) a2 (.tup [.str "mark"])) a3 (.tup [.ref a1,.ref a2])) a4 (.tup [.str "call",.str "add",.ref a3])) a5 (.tup [.int 0,.str (cC c),.ref a4])) a6 (.tup [.ref a5])=H3 at uA R1 g6 ⊢
 refine⟨_,rfl,_,rfl,(by show 3 <= sizeLine;decide),fun b1 k1=>⟨(by show 3 <= sizeLine;decide),fun b2 k2=>⟨_,rfl,_,rfl,(by show 3 <= sizeLine;decide),fun b3 k3=>⟨(by show 3 <= sizeLine;decide),fun b4 k4=>⟨_,rfl,_,rfl,(by show 3 <= sizeLine;decide),fun b5 k5=>⟨(by show 3 <= sizeLine;decide),fun b6 k6=>⟨(by show 3 <= sizeLine;decide),fun b7 k7=>?_⟩⟩⟩⟩⟩⟩⟩
 have v1:=ac k1 (.tup [.str "of",.int 1,.str (cC c)])
 have v2:=ac k2 (.tup [.int 2,.str (aC c),.ref b1])
 have v3:=ac k3 (.tup [.str "of",.int 0,.str (aC c)])
 have v4:=ac k4 (.tup [.int 1,.str (aC c),.ref b3])
 have v5:=ac k5 (.tup [.str "of",.int 3,.str (cC c)])
 have v6:=ac k6 (.tup [.int 0,.str (cC c),.ref b5])
 have v7:=ac k7 (.tup [.ref b2,.ref b4,.ref b6])
 have w67:=v6.trans v7
 have w57:=v5.trans w67
 have w47:=v4.trans w57
 have w37:=v3.trans w47
 have w27:=v2.trans w37
 have vA:=v1.trans w27
 have Q1:RuIs _ ⟨2,aC c,.val 1 (cC c)⟩ (.ref b2):=⟨b2,.ref b1,rfl,w37 _ _ aa,fO (w27 _ _ aa)⟩
 have Q2:RuIs _ ⟨1,aC c,.val 0 (aC c)⟩ (.ref b4):=⟨b4,.ref b3,rfl,w57 _ _ aa,fO (w47 _ _ aa)⟩
 have Q3:RuIs _ ⟨0,cC c,.val 3 (cC c)⟩ (.ref b6):=⟨b6,.ref b5,rfl,v7 _ _ aa,fO (w67 _ _ aa)⟩
 have g7:=aa (H:=upd (upd (upd (upd (upd (upd H3 b1 (.tup [.str "of",.int 1,.str (cC c)])) b2 (.tup [.int 2,.str (aC c),.ref b1])) b3 (.tup [.str "of",.int 0,.str (aC c)])) b4 (.tup [.int 1,.str (aC c),.ref b3])) b5 (.tup [.str "of",.int 3,.str (cC c)])) b6 (.tup [.int 0,.str (cC c),.ref b5])) (a:=b7) (o:=.tup [.ref b2,.ref b4,.ref b6])
 generalize upd (upd (upd (upd (upd (upd (upd H3 b1 (.tup [.str "of",.int 1,.str (cC c)])) b2 (.tup [.int 2,.str (aC c),.ref b1])) b3 (.tup [.str "of",.int 0,.str (aC c)])) b4 (.tup [.int 1,.str (aC c),.ref b3])) b5 (.tup [.str "of",.int 3,.str (cC c)])) b6 (.tup [.int 0,.str (cC c),.ref b5])) b7 (.tup [.ref b2,.ref b4,.ref b6])=H4 at vA Q1 Q2 Q3 g7 ⊢
 refine⟨_,rfl,_,rfl,_,rfl,(by show 3 <= sizeLine;decide),fun d1 l1=>⟨(by show 1 <= sizeLine;decide),fun d2 l2=>⟨(by show 2 <= sizeLine;decide),fun d3 l3=>⟨(by show 3 <= sizeLine;decide),fun d4 l4=>⟨(by show 3 <= sizeLine;decide),fun d5 l5=>⟨(by show 1 <= sizeLine;decide),fun d6 l6=>?_⟩⟩⟩⟩⟩⟩
 have x1:=ac l1 (.tup [.str "of",.int 2,.str (cC c)])
 have x2:=ac l2 (.tup [.str "mark"])
 have x3:=ac l3 (.tup [.ref d1,.ref d2])
 have x4:=ac l4 (.tup [.str "call",.str "sub",.ref d3])
 have x5:=ac l5 (.tup [.int 3,.str (aC c),.ref d4])
 have x6:=ac l6 (.tup [.ref d5])
 have xA:=x1.trans (x2.trans (x3.trans (x4.trans (x5.trans x6))))
 have Q4:RuIs _ ⟨3,aC c,.call "sub" [.val 2 (cC c),.mark]⟩ (.ref d5):=⟨d5,.ref d4,rfl,x6 _ _ aa,cH ((x5.trans x6) _ _ aa) ((x4.trans (x5.trans x6)) _ _ aa) (by show 2 <= 1000;decide) (vB (fO ((x2.trans (x3.trans (x4.trans (x5.trans x6)))) _ _ aa)) (dI ((x3.trans (x4.trans (x5.trans x6))) _ _ aa)))⟩
 have y6:=aa (H:=upd (upd (upd (upd (upd H4 d1 (.tup [.str "of",.int 2,.str (cC c)])) d2 (.tup [.str "mark"])) d3 (.tup [.ref d1,.ref d2])) d4 (.tup [.str "call",.str "sub",.ref d3])) d5 (.tup [.int 3,.str (aC c),.ref d4])) (a:=d6) (o:=.tup [.ref d5])
 generalize upd (upd (upd (upd (upd (upd H4 d1 (.tup [.str "of",.int 2,.str (cC c)])) d2 (.tup [.str "mark"])) d3 (.tup [.ref d1,.ref d2])) d4 (.tup [.str "call",.str "sub",.ref d3])) d5 (.tup [.int 3,.str (aC c),.ref d4])) d6 (.tup [.ref d5])=H5 at xA Q4 y6 ⊢
 refine⟨b7,d6,_,_,rfl,rfl,xA _ _ g7,y6,bP (by show 3+1 <= 100000;decide),fun e7 H6 s6 he7=>?_⟩
 have sC6:=s12.trans (uA.trans (vA.trans (xA.trans s6)))
 have hn6:=(uA.trans (vA.trans (xA.trans s6))) _ _ hD2
 have TA:=au (vA.trans (xA.trans s6))
 have TB':=au (xA.trans s6)
 have R1':=RuIs.same TA R1
 have g6':=TA _ _ g6
 have Q1':=RuIs.same TB' Q1
 have Q2':=RuIs.same TB' Q2
 have Q3':=RuIs.same TB' Q3
 have Q4':=RuIs.same (au s6) Q4
 refine⟨_,rfl,D2,_,0,.str (nC c),rfl,rfl,SqL.of hn6,rfl,_,rfl,(by show 0 <= sizeLine;decide),fun p1 r1=>⟨_,rfl,(by show 4 <= sizeLine;decide),fun p2 r2=>?_⟩⟩
 have z1:=ac r1 (.tup [])
 have z2:=ac r2 (.tup [.str (nC c),.str (sC c),.ref p1,.ref a6])
 refine⟨_,rfl,D2,_,1,.str (mC c),rfl,rfl,SqL.of ((z1.trans z2) _ _ hn6),rfl,_,rfl,_,rfl,_,rfl,_,rfl,(by show 3 <= sizeLine;decide),fun p3 r3=>⟨_,rfl,(by show 4 <= sizeLine;decide),fun p4 r4=>⟨(by show 2 <= sizeLine;decide),fun p5 r5=>?_⟩⟩⟩
 have z3:=ac r3 (.tup [.str (sC c),.str (sC c),.str (sC c)])
 have z4:=ac r4 (.tup [.str (mC c),.str (sC c),.ref p3,.ref e7])
 have z5:=ac r5 (.tup [.ref p2,.ref p4])
 have z45:=z4.trans z5
 have z35:=z3.trans z45
 have z25:=z2.trans z35
 have zA:=z1.trans z25
 have F1:FmIs _ (dM c) (.ref p2):=⟨p2,p1,a6,[.ref a5],rfl,z35 _ _ aa,z25 _ _ aa,zA _ _ g6',.cons (RuIs.same (au zA) R1') .nil⟩
 have F2:FmIs _ (cg c) (.ref p4):=⟨p4,p3,e7,_,rfl,z5 _ _ aa,z45 _ _ aa,zA _ _ he7,.cons (RuIs.same (au zA) Q1') (.cons (RuIs.same (au zA) Q2') (.cons (RuIs.same (au zA) Q3') (.cons (RuIs.same (au zA) Q4') .nil)))⟩
 have hp5:=aa (H:=upd (upd (upd (upd H6 p1 (.tup [])) p2 (.tup [.str (nC c),.str (sC c),.ref p1,.ref a6])) p3 (.tup [.str (sC c),.str (sC c),.str (sC c)])) p4 (.tup [.str (mC c),.str (sC c),.ref p3,.ref e7])) (a:=p5) (o:=.tup [.ref p2,.ref p4])
 generalize upd (upd (upd (upd (upd H6 p1 (.tup [])) p2 (.tup [.str (nC c),.str (sC c),.ref p1,.ref a6])) p3 (.tup [.str (sC c),.str (sC c),.str (sC c)])) p4 (.tup [.str (mC c),.str (sC c),.ref p3,.ref e7])) p5 (.tup [.ref p2,.ref p4])=H7 at zA F1 F2 hp5 ⊢
 refine⟨_,rfl,_,rfl,(by show 2 <= sizeLine;decide),fun q1 t1=>⟨(by show 1 <= sizeLine;decide),fun q2 t2=>⟨_,rfl,(by show 2 <= sizeLine;decide),fun q3 t3=>⟨(by show 1 <= sizeLine;decide),fun q4 t4=>⟨(by show 3 <= sizeLine;decide),fun q5 t5=>⟨(by show 1 <= sizeLine;decide),fun q6 t6=>⟨_,rfl,(by show 2 <= sizeLine;decide),fun q7 t7=>?_⟩⟩⟩⟩⟩⟩⟩
 have j1:=ac t1 (.tup [.str (aC c),.str "num"])
 have j2:=ac t2 (.tup [.ref q1])
 have j3:=ac t3 (.tup [.str (cC c),.str "num"])
 have j4:=ac t4 (.tup [.ref q3])
 have j5:=ac t5 (.tup [.str (sC c),.ref q2,.ref q4])
 have j6:=ac t6 (.tup [.ref q5])
 have j7:=ac t7 (.tup [.ref q6,.ref p5])
 have j67:=j6.trans j7
 have j57:=j5.trans j67
 have j47:=j4.trans j57
 have j37:=j3.trans j47
 have j27:=j2.trans j37
 have jA:=j1.trans j27
 exact q _ _ (sC6.trans (zA.trans jA)) ⟨q7,q6,p5,[.ref q5],_,rfl,aa,j7 _ _ aa,.cons ⟨q5,q2,q4,_,_,rfl,j67 _ _ aa,j37 _ _ aa,.cons ⟨q1,rfl,j27 _ _ aa⟩ .nil,j57 _ _ aa,.cons ⟨q3,rfl,j47 _ _ aa⟩ .nil⟩ .nil,jA _ _ hp5,.cons (FmIs.same (au jA) F1) (.cons (FmIs.same (au jA) F2) .nil)⟩
theorem uo (X:Tx K mg T):∀ m:Nat,FnOk P w K mg base CX0 (m+1) T.qBG T.d_qBG ["_law_forms", "_law_many_here", "_law_cell"] (rO m):=by
 have step:∀ (m:Nat) (sp:Sp),FnOk P w K mg base CX0 m T.qBG T.d_qBG ["_law_forms", "_law_many_here", "_law_cell"] sp->(∀ (c0:Int) (fa:Addr) (fus:List V) (n:Nat) (c:Int) (H:Hp) (Q:VK) (E:XK),H fa=some (.tup fus)->L2R (FmIs H) (gC c0).fm fus->n < m->n <= 1000->(∀ t v H',Same H H'->TrIs H' t v->fit (frs (gC c0)) t=some (sC c0)->size t=3 * n+1->Q v H')->sp [.ref fa,.int (n:Int),.int c] H Q E)->FnOk P w K mg base CX0 (m+1) T.qBG T.d_qBG ["_law_forms", "_law_many_here", "_law_cell"] (rO m):=by
  intro m sp G_qBG hsp
  refine X.F_qBG.okQ sc_qBG (fun vs H Q E h=>?_) (fun cdv A outer s H vs Q E hr h=>?_)
  ·obtain⟨_,_,_,_,_,rfl,_⟩:=h
   rfl
  obtain⟨c0,fa,fus,n,c,rfl,hfa,hfr,hn,hn1,q⟩:=h
  refine⟨_,(ag (bp (aK bL (qv 1) af (aP _)) (ai (ay (ak (qaS (ao ar (ao ar (qv 0) af (fun _ _=>rfl)) af (fun _ _=>rfl)) (qaB (aj aM (qv 2) af) (qaT (ak ae) ae)))))) aL) (ag (am (i:=3) sc_qBG.nd rfl (Or.inl rfl) (aj aO (aj cx (qv 1) af) af)) (ag (am (i:=4) sc_qBG.nd rfl (Or.inl rfl) (aV (qaN (qv 3) (qaN (qv 3) (qaB (aj cx (aj cx (qv 1) af) (aj df af (qv 3))) ae))))) (ag (am (i:=4) sc_qBG.nd rfl (Or.inl rfl) (aj dY (bc cI (qv 4) (bz (aj aM (qv 2) af)) bA) (bc cI (qv 4) bA (bz (aj aM (qv 2) af))))) (ai (ay (ak (qaS (ao ar (ao ar (qv 0) af (fun _ _=>rfl)) af (fun _ _=>rfl)) (qaB (aj aM (qv 2) af) (qaK (aY aT rfl X.z_tuple PyProof.Rows.boot_tuple (qaE (bH (ys:=["_law_forms", "_law_cell"]) (js:=[0,2]) rfl rfl (bB (qv 4)) (fun _ _ _ _ _=>bE) (fun _ _ _ _ _=>(aq G_qBG hr rfl X.m_qBG X.F_qBG.kp X.b_qBG .nil aW (qaN (qv 1) (qaN (qv 0) (qaB (aj bw (aj aO (qv 2) af) (qv 0)) ae)))))) ae)) ae)))))))))),?_⟩
  dsimp only[cm]
  obtain⟨v0,hv0,fp0,fb0,frr0,fru0,rfl,hfp0,_⟩:=cF hfr (show (gC c0).fm[0]?=some (dM c0) from rfl)
  obtain⟨v1,hv1,fp1,fb1,frr1,fru1,rfl,hfp1,_⟩:=cF hfr (show (gC c0).fm[1]?=some (cg c0) from rfl)
  refine⟨_,rfl,rfl,_,rfl,cW (fun h0=>?_) (fun h0=>?_)⟩
  ·have hn0:n=0:=by have:=V.int.inj h0;omega
   subst hn0
   refine⟨_,rfl,fa,_,0,_,rfl,rfl,SqT.of hfa,bt hv0,fp0,_,0,_,rfl,rfl,SqT.of hfp0,rfl,_,rfl,_,_,rfl,rfl,(by show (0:Int) < 1000;decide),(by show 0 <= sizeLine;decide),fun a1 h1=>⟨(by show 3 <= sizeLine;decide),fun a2 h2=>?_⟩⟩
   have u1:=ac h1 (.tup [])
   have u2:=ac h2 (.tup [.str (nC c0),.int (c % 1000),.ref a1])
   exact q (.node (nC c0) (c % 1000) []) _ _ (u1.trans u2) (TrIs.cl aa (u2 _ _ aa) .nil) (rc c0 _) (by rw[size,be])
  ·have hn0:1 <= n:=by
    rcases Nat.eq_zero_or_pos n with z | z
    ·exact absurd (by rw[z];rfl) h0
    ·exact z
   refine⟨_,rfl,_,_,rfl,rfl,_,_,rfl,rfl,⟨by decide,by decide⟩,?_⟩
   obtain⟨sh,hsh,hsh2⟩ : ∃ sh:Nat,((n:Int) - 1) / 3=(sh:Int)/\2 * sh <= n - 1:=⟨(n - 1) / 3,by omega,by omega⟩
   refine⟨_,rfl,_,rfl,_,rfl,_,_,rfl,rfl,_,rfl,_,_,rfl,rfl,.inl ⟨by decide,by decide⟩,_,_,rfl,rfl,(by show 3 <= sizeLine;decide),fun l1 h1=>?_⟩
   dsimp only
   rw[hsh,show (n:Int) - 1 - 2 * (sh:Int)=((n - 1 - 2 * sh:Nat):Int) by omega]
   have u1:=ac h1 (.lst [.int (sh:Int),.int (sh:Int),.int ((n - 1 - 2 * sh:Nat):Int)])
   have hl1:=aa (H:=H) (a:=l1) (o:=.lst [.int (sh:Int),.int (sh:Int),.int ((n - 1 - 2 * sh:Nat):Int)])
   generalize upd H l1 (.lst [.int (sh:Int),.int (sh:Int),.int ((n - 1 - 2 * sh:Nat):Int)])=H1 at u1 hl1 ⊢
   have c0':=Int.emod_nonneg c (show (3:Int) ≠ 0 by decide)
   have c1':=Int.emod_lt_of_pos c (show (0:Int) < 3 by decide)
   obtain⟨k,hk⟩:=Int.eq_ofNat_of_zero_le c0'
   refine⟨_,rfl,_,rfl,_,_,rfl,rfl,(by show (0:Int) < 3;decide),_,rfl,l1,_,rfl,SqL.of hl1,fun b1 hb1=>?_⟩
   rw[hk,cR]
   have u2:=ac hb1 (.lst (([V.int (sh:Int),.int (sh:Int),.int ((n - 1 - 2 * sh:Nat):Int)]:List V).drop k))
   refine⟨_,rfl,_,rfl,_,_,rfl,rfl,(by show (0:Int) < 3;decide),_,rfl,l1,_,rfl,SqL.of (u2 _ _ hl1),fun b2 hb2=>?_⟩
   rw[hk,bS]
   have u3:=ac hb2 (.lst (([V.int (sh:Int),.int (sh:Int),.int ((n - 1 - 2 * sh:Nat):Int)]:List V).take k))
   refine⟨b1,b2,_,_,rfl,rfl,u3 _ _ aa,aa,bP (by rw[List.length_drop,List.length_take];show 3 - k+min k 3 <= 100000;omega),fun b3 hb3=>?_⟩
   have u4:=ac hb3 (.lst (([V.int (sh:Int),.int (sh:Int),.int ((n - 1 - 2 * sh:Nat):Int)]:List V).drop k++([V.int (sh:Int),.int (sh:Int),.int ((n - 1 - 2 * sh:Nat):Int)]:List V).take k))
   have hb3':=aa (H:=upd (upd H1 b1 (.lst (([V.int (sh:Int),.int (sh:Int),.int ((n - 1 - 2 * sh:Nat):Int)]:List V).drop k))) b2 (.lst (([V.int (sh:Int),.int (sh:Int),.int ((n - 1 - 2 * sh:Nat):Int)]:List V).take k))) (a:=b3) (o:=.lst (([V.int (sh:Int),.int (sh:Int),.int ((n - 1 - 2 * sh:Nat):Int)]:List V).drop k++([V.int (sh:Int),.int (sh:Int),.int ((n - 1 - 2 * sh:Nat):Int)]:List V).take k))
   have uA:=u1.trans (u2.trans (u3.trans u4))
   obtain⟨ns,hns,l3,hsum⟩ : ∃ ns:List Nat,([V.int (sh:Int),.int (sh:Int),.int ((n - 1 - 2 * sh:Nat):Int)]:List V).drop k++([V.int (sh:Int),.int (sh:Int),.int ((n - 1 - 2 * sh:Nat):Int)]:List V).take k=ns.map (fun (x:Nat)=>V.int (x:Int))/\ns.length=3/\(ns.map fun x=>3 * x+1).sum=3 * n:=by
    have:k=0\/k=1\/k=2:=by omega
    rcases this with rfl | rfl | rfl
    ·exact⟨[sh,sh,n - 1 - 2 * sh],rfl,rfl,by simp;omega⟩
    ·exact⟨[sh,n - 1 - 2 * sh,sh],rfl,rfl,by simp;omega⟩
    ·exact⟨[n - 1 - 2 * sh,sh,sh],rfl,rfl,by simp;omega⟩
   have hb3':=hb3'.trans (congrArg (fun l=>some (HO.lst l)) hns)
   have hfa4:=uA _ _ hfa
   have hfr4:=hfr.imp fun _ _ h=>FmIs.same (au uA) h
   generalize upd (upd (upd H1 b1 (.lst (([V.int (sh:Int),.int (sh:Int),.int ((n - 1 - 2 * sh:Nat):Int)]:List V).drop k))) b2 (.lst (([V.int (sh:Int),.int (sh:Int),.int ((n - 1 - 2 * sh:Nat):Int)]:List V).take k))) b3 (.lst (([V.int (sh:Int),.int (sh:Int),.int ((n - 1 - 2 * sh:Nat):Int)]:List V).drop k++([V.int (sh:Int),.int (sh:Int),.int ((n - 1 - 2 * sh:Nat):Int)]:List V).take k))=H4 at uA hb3' hfa4 hfr4 ⊢
   have hfp1':=uA _ _ hfp1
   refine⟨_,rfl,fa,_,1,_,rfl,rfl,SqT.of hfa4,bt hv1,fp1,_,0,_,rfl,rfl,SqT.of hfp1',rfl,_,rfl,_,_,rfl,rfl,(by show (0:Int) < 7;decide),_,rfl,b3,rfl,⟨_,SqL.of hb3'⟩,fun D nD=>?_⟩
   have lm:(ns.map fun (x:Nat)=>V.int (x:Int)).length=3:=by rw[List.length_map];exact l3
   refine gY (K:=K) (a:=b3) (xs:=ns.map fun (x:Nat)=>V.int (x:Int)) (fun i acc H'=>i <= 3/\Same H4 H'/\H' D=some (.lst acc)/\∃ ts:List Tr,ts.length=i/\L2R (TrIs H') ts acc/\dQ (frs (gC c0)) ts=some (List.replicate i (sC c0))/\be ts=((ns.take i).map fun x=>3 * x+1).sum) (bM (by omega)) ⟨by decide,ac nD _,aa,[],rfl,.nil,by rw[dQ];rfl,by rw[be];rfl⟩ (fun i acc H' ⟨_,sm,x,ts,l,r,_⟩=>⟨x,by rw[r.len,l],SqL.of (sm _ _ hb3')⟩) ?_ ?_
   ·rintro i mm x acc H' hx ⟨li,sm,hD,ts,lt,hts,hft,hsz⟩ hm
    rw[List.getElem?_map] at hx
    obtain⟨y,hy,rfl⟩:=Option.map_eq_some_iff.mp hx
    have hyb:y <= n - 1:=by
     have hmem:=List.mem_of_getElem? hy
     have:∀ (l:List Nat) (y:Nat),y ∈ l->3 * y+1 <= (l.map fun x=>3 * x+1).sum:=fun l=>by
      induction l with
      | nil=>intro y h;cases h
      | cons a l ih=>
       intro y h
       rw[List.map_cons,List.sum_cons]
       rcases List.mem_cons.mp h with rfl | h
       ·omega
       ·have:=ih y h
        omega
     have:=this ns y hmem
     omega
    have hi3:=aD hy
    refine⟨_,rfl,_,rfl,_,rfl,_,_,rfl,rfl,⟨by decide,by decide⟩,_,rfl,_,_,rfl,rfl,?_⟩
    refine hsp c0 fa fus y _ H' _ _ (sm _ _ hfa4) (hfr4.imp fun _ _ h=>FmIs.same (au sm) h) (by omega) (by omega) fun t v H5 s5 ht hft5 hsz5=>?_
    have hD5:=s5 _ _ hD
    have tD:=aI (ys:=acc++[v]) hD5
    refine eF (n:=(ns.map fun (x:Nat)=>V.int (x:Int)).length) (i:=i) (by omega) hm hD5 ⟨by omega,aN nD (sm.trans s5),aa,ts++[t],by rw[List.length_append,lt];rfl,(hts.imp fun _ _ h=>TrIs.same ((au s5).trans tD) _ h).snoc (TrIs.same tD t ht),?_,?_⟩
    ·rw[List.replicate_succ']
     exact fk hft hft5
    ·rw[aJ hy,List.map_append,List.sum_append,<- hsz,eR,be,be,hsz5]
     simp
   ·rintro acc H' ⟨li,sm,hD,ts,lt,hts,hft,hsz⟩
    rw[lm] at lt hft hsz
    rw[List.take_of_length_le (by omega),hsum] at hsz
    refine⟨D,_,rfl,.inl ⟨SqL.of hD,fun t5 n5=>⟨(by show 3 <= sizeLine;decide),fun t6 n6=>?_⟩⟩⟩
    have z1:=ac n5 (.tup acc)
    have z2:=ac n6 (.tup [.str (mC c0),.int (c % 7),.ref t5])
    have z12:=z1.trans z2
    exact q (.node (mC c0) (c % 7) ts) _ _ (uA.trans (sm.trans z12)) (TrIs.cl aa (z2 _ _ aa) (hts.imp fun _ _ h=>TrIs.same (au z12) _ h)) (oU c0 _ hft) (by rw[size,hsz];omega)
 intro m
 induction m with
 | zero=>exact step 0 (fun _ _ _ _=>False) ⟨fun _ _ _ _ h=>h.elim,fun _ _ _ _ _ _ _ _ _ _ _ _ _ h=>h.elim⟩ (fun c0 fa fus n c H Q E _ _ hn _ _=>absurd hn (Nat.not_lt_zero _))
 | succ m ih=>exact step (m+1) _ ih fun c0 fa fus n c H Q E h1 h2 h3 h4 h5=>⟨c0,fa,fus,n,c,rfl,h1,h2,by omega,h4,h5⟩
end
structure xq (g:Gr) (t:Tr):Prop where
 gt:GT g t
 kind:GrG g\/∃ c,g=gC c
def vV:Sp:=fun vs H Q _=>∃ (d:Addr) (cs:List Int),vs=[.ref d]/\H d=some (.lst (cs.map V.int))/\cs.length=140/\∀ (x:Addr) (vg vt:V) (g:Gr) (t:Tr) (H':Hp),Kp [d] H H'->H' x=some (.tup [vg,vt])->GrIs H' g vg->TrIs H' t vt->xq g t->Q (.ref x) H'
section
variable {P:Program} {w:World} {K:W.Frag} {mg:Str->Option Value} {base:Heap} {T:Adr}
theorem uw (X:Tx K mg T):FnOk P w K mg base CX0 30 T.qBA T.d_qBA ["_law_deck_here"] vV:=by
 have G_qAH:=(ur (P:=P) (w:=w) (base:=base) X).mono (show 4 <= 29 by decide)
 have G_qAS:=(qK (P:=P) (w:=w) (base:=base) X 11).mono (show 12 <= 29 by decide)
 have G_qAG:=(lZ (P:=P) (w:=w) (base:=base) X).mono (show 2 <= 29 by decide)
 have G_qBG:=(uo (P:=P) (w:=w) (base:=base) X 19).mono (show 20 <= 29 by decide)
 refine X.F_qBA.okQ sc_qBA (fun vs H Q E h=>?_) (fun cdv A outer s H vs Q E hr h=>?_)
 ·obtain⟨_,_,rfl,_⟩:=h
  rfl
 obtain⟨d,cs,rfl,hd,lcs,q⟩:=h
 refine⟨_,(ag (am (i:=1) sc_qBA.nd rfl (Or.inl rfl) (cL PySem.F.plainAttrs_list PySem.F.slot_list_pop PySem.F.type_list_pop cN (qv 0))) (ag (bp (aK bL (aj aM (qv 1) af) af (aP _)) (ag (am (i:=2) sc_qBA.nd rfl (Or.inl rfl) (aq G_qAG hr rfl X.m_qAG X.F_qAG.kp X.b_qAG .nil aW (qaB (aj aO (qv 1) af) ae))) (ai (ay (ak (qaN (qv 2) (qaK (aq G_qBG hr rfl X.m_qBG X.F_qBG.kp X.b_qBG .nil aW (qaS (ao ar (qv 2) af (fun _ _=>rfl)) (qaB (aj bw af (aj aM (aj aO (qv 1) af) af)) (qaB (aj aO (qv 1) af) ae)))) ae)))))) aL) (ag (am (i:=2) sc_qBA.nd rfl (Or.inl rfl) (aq G_qAH hr rfl X.m_qAH X.F_qAH.kp X.b_qAH .nil aW (qaN (qv 0) ae))) (ag (am (i:=3) sc_qBA.nd rfl (Or.inl rfl) (ao ar (ao ar (ao ar (qv 2) af (fun _ _=>rfl)) (aj aM (aj aO (qv 1) af) (ax call_len_seq rfl X.z_len PySem.boot_len (qaS (ao ar (qv 2) af (fun _ _=>rfl)) ae))) (fun _ _=>rfl)) af (fun _ _=>rfl))) (ai (ay (ak (qaN (qv 2) (qaK (aq G_qAS hr rfl X.m_qAS X.F_qAS.kp X.b_qAS .nil aW (qaN (qv 2) (qaN (qv 3) (qaN (qv 0) (qaL (aV (qaC af ae)) ae))))) ae))))))))),?_⟩
 dsimp only[cm]
 obtain⟨cs1,c,rfl⟩:=bW (l:=cs) (by omega)
 rw[List.length_append,List.length_singleton] at lcs
 have hd:H d=some (.lst (cs1.map V.int++[.int c])):=by rw[hd,List.map_append];rfl
 refine⟨_,rfl,.inl ⟨rfl,_,SqL.of hd⟩,d,_,.int c,rfl,rfl,hd,by simp,?_⟩
 dsimp only
 rw[List.dropLast_concat]
 have k1:Kp [d] H (upd H d (.lst (cs1.map V.int))):=(Kp.refl _ _).upd (by simp)
 have hd1:=aa (H:=H) (a:=d) (o:=.lst (cs1.map V.int))
 generalize upd H d (.lst (cs1.map V.int))=H1 at k1 hd1 ⊢
 refine⟨_,rfl,_,_,rfl,rfl,(by show (0:Int) < 8;decide),rfl,_,rfl,cW (fun _=>?_) (fun _=>?_)⟩
 ·refine⟨_,rfl,_,_,rfl,rfl,⟨by decide,by decide⟩,_,rfl,fun vg H2 s2 hg=>?_⟩
  have hg0:=hg
  obtain⟨gp,sa,fa,sus,fus,rfl,hg1,_,_,hfa,hfr⟩:=hg
  have e0:=Int.emod_nonneg (c / 8) (show (7:Int) ≠ 0 by decide)
  have e1:=Int.emod_lt_of_pos (c / 8) (show (0:Int) < 7 by decide)
  obtain⟨n,hn⟩:=Int.eq_ofNat_of_zero_le (show 0 <= 13+c / 8 % 7 by omega)
  refine⟨_,rfl,_,rfl,gp,_,1,_,rfl,rfl,SqT.of hg1,rfl,_,rfl,_,_,rfl,rfl,⟨by decide,by decide⟩,_,_,rfl,rfl,(by show (0:Int) < 7;decide),_,_,rfl,rfl,_,rfl,_,_,rfl,rfl,⟨by decide,by decide⟩,?_⟩
  dsimp only
  rw[hn]
  refine⟨c / 8,fa,fus,n,_,rfl,hfa,hfr,by omega,by omega,fun t vt H3 s3 ht hft hsz=>⟨(by show 2 <= sizeLine;decide),fun x nx=>?_⟩⟩
  have s4:=ac nx (.tup [.ref gp,vt])
  exact q x _ vt (gC (c / 8)) t _ (k1.same (s2.trans (s3.trans s4))) aa (GrIs.same (au (s3.trans s4)) hg0) (TrIs.same (au s4) t ht) ⟨⟨yW _,yV _,⟨_,hft⟩,by omega⟩,.inr ⟨_,rfl⟩⟩
 ·refine⟨_,rfl,d,cs1,rfl,hd1,by omega,fun vg g cs2 H2 k2 hg gg hd2 l30=>?_⟩
  have hg0:=hg
  obtain⟨gp,sa,fa,sus,fus,rfl,hg1,hsa,hsg,hfa,hfr⟩:=hg
  have lsg:=hsg.len
  have l1:=gg.sg.l1
  have e0:=Int.emod_nonneg (c / 8) (show (sus.length:Int) ≠ 0 by omega)
  have e1:=Int.emod_lt_of_pos (c / 8) (show (0:Int) < (sus.length:Int) by omega)
  obtain⟨j,hj⟩:=Int.eq_ofNat_of_zero_le e0
  obtain⟨s,hs⟩:=aH (xs:=g.sg) (i:=j) (by omega)
  obtain⟨vs',hvs',sp',da,ua,dus,uus,rfl,hsp,_⟩:=cF hsg hs
  refine⟨_,rfl,gp,_,0,_,rfl,rfl,SqT.of hg1,rfl,_,rfl,_,_,rfl,rfl,⟨by decide,by decide⟩,_,rfl,gp,_,0,_,rfl,rfl,SqT.of hg1,rfl,sa,sus,rfl,.inr (SqT.of hsa),_,_,rfl,rfl,(by show (0:Int) < (sus.length:Int);omega),sa,_,_,_,rfl,rfl,SqT.of hsa,(by rw[hj];exact bt hvs'),sp',_,0,_,rfl,rfl,SqT.of hsp,rfl,?_⟩
  refine⟨_,rfl,_,rfl,_,rfl,_,rfl,(by show 1 <= sizeLine;decide),fun rm nrm=>?_⟩
  have s3:=ac nrm (.lst [.int 11])
  have hd3:=s3 _ _ hd2
  have nrd:d ≠ rm:=aG hd2 nrm
  refine⟨g,_,s.nm,d,rm,11,cs2,rfl,GrIs.same (au s3) hg0,gg.Grw,gg.bas hs,by decide,by decide,nrd,hd3,aa,by omega,fun t vt cs3 r3 H4 k4 ht hft hsz hd4 lc4 hr4=>⟨(by show 2 <= sizeLine;decide),fun x nx=>?_⟩⟩
  have s5:=ac nx (.tup [.ref gp,vt])
  have T4:SameT (upd H2 rm (.lst [.int 11])) H4:=k4.T fun y hy=>by
   have hy:y=d\/y=rm:=by simpa using hy
   rcases hy with rfl | rfl
   ·exact⟨_,hd3⟩
   ·exact⟨_,aa⟩
  have rm0:H rm=none:=by
   have:=k2.free nrm (by simpa using nrd.symm)
   exact k1.free this (by simpa using nrd.symm)
  refine q x _ vt g t _ (fun b o hb hB=>s5 _ _ (k4 b o (by simp;exact⟨by simpa using hb,aG hB rm0⟩) (s3 _ _ (k2 b o hb (k1 b o hb hB))))) aa (GrIs.same ((au s3).trans (T4.trans (au s5))) hg0) (TrIs.same (au s5) t ht) ⟨⟨gg.F,gg.W,⟨_,hft⟩,by omega⟩,.inl gg⟩
end
end K41
namespace K41
open PySem L2 TR FT SP
open TM
def tz:Sp:=fun vs H Q _=>∃ t v,vs=[v]/\TrIs H t v/\size t <= 200/\∀ D us H',Same H H'->H' D=some (.lst us)->L2R (NdIs H') (nds [] t) us->Q (.ref D) H'
noncomputable def wtN (xs:List (List Int × Tr)):Nat:=(xs.map fun x=>size x.2).sum
theorem gl (xs ys:List (List Int × Tr)):wtN (xs++ys)=wtN xs+wtN ys:=by unfold wtN;rw[List.map_append,List.sum_append]
theorem jF (p:List Int):∀ (ts:List Tr) (k:Int),wtN (cO p k ts)=be ts
 | [],k=>by rw[cO,be];rfl
 | t::ts,k=>by
  rw[cO,be,<- jF p ts (k+1)]
  rfl
theorem sM (xs:List (List Int × Tr)):wtN xs.reverse=wtN xs:=by
 induction xs with
 | nil=>rfl
 | cons x xs ih=>
  rw[List.reverse_cons,gl,ih]
  show wtN xs+(size x.2+0)=size x.2+wtN xs
  omega
theorem sN (xs:List (List Int × Tr)):xs.length <= wtN xs:=by
 induction xs with
 | nil=>exact Nat.le_refl _
 | cons x xs ih=>
  have:=gv x.2
  show xs.length+1 <= size x.2+wtN xs
  omega
noncomputable def ndF (xs:List (List Int × Tr)):List (List Int × Tr):=xs.reverse.flatMap fun x=>nds x.1 x.2
theorem jh (xs ys:List (List Int × Tr)):ndF (xs++ys)=ndF ys++ndF xs:=by unfold ndF;simp
section
variable {P:Program} {w:World} {K:W.Frag} {mg:Str->Option Value} {base:Heap} {T:Adr}
theorem jQ (X:Tx K mg T):FnOk P w K mg base CX0 1 T.qAQ T.d_qAQ ["_law_tree"] tz:=by
 refine X.F_qAQ.okQ sc_qAQ (fun vs H Q E h=>?_) (fun cdv A outer s H vs Q E hr h=>?_)
 ·obtain⟨_,_,rfl,_⟩:=h
  rfl
 obtain⟨t,v,rfl,hv,hz,q⟩:=h
 refine⟨_,(ag (am (i:=1) sc_qAQ.nd rfl (Or.inl rfl) (aV ae)) (ag (am (i:=2) sc_qAQ.nd rfl (Or.inl rfl) (aV (qaT (ak (qaT (ak ae) (qaN (qv 0) ae))) ae))) (ag (jL PassesOwn.never (aK (qw hr.units) (qv 2) (aV ae) (aP _)) (ag (ik (cL PySem.F.plainAttrs_list PySem.F.slot_list_pop PySem.F.type_list_pop cN (qv 2)) (dF rfl (aQ (az (i:=3) sc_qAQ.nd rfl (Or.inl rfl)) (aQ (az (i:=4) sc_qAQ.nd rfl (Or.inl rfl)) bY)))) (ag (bU (eB PySem.F.plainAttrs_list PySem.F.slot_list_append PySem.F.type_list_append bg (qv 1) (qaT (ak (qaN (qv 3) (qaN (qv 4) ae))) ae))) (ai (bq PassesOwn.never rfl (tU rfl rfl X.z_reversed rfl X.z_range (ax call_len_seq rfl X.z_len PySem.boot_len (qaS (ao ar (qv 4) af (fun _ _=>rfl)) ae))) (az (i:=5) sc_qAQ.nd rfl (Or.inl rfl)) (ai (bU (eB PySem.F.plainAttrs_list PySem.F.slot_list_append PySem.F.type_list_append bg (qv 2) (qaT (ak (qaB (aj cy (qv 3) (ak (qaB (aj bw (qv 5) af) ae))) (qaS (ao ar (ao ar (qv 4) af (fun _ _=>rfl)) (qv 5) (fun _ _=>rfl)) ae))) ae))))))))) (ai (ay (qv 1)))))),?_⟩
 dsimp only[cm]
 refine⟨(by show 0 <= sizeLine;decide),fun R hR=>?_⟩
 have s1:=ac hR (.lst [])
 refine⟨(by show 0 <= sizeLine;decide),fun e he=>⟨_,rfl,(by show 2 <= sizeLine;decide),fun p0 hp0=>⟨(by show 1 <= sizeLine;decide),fun L hL=>?_⟩⟩⟩
 have s2:=ac he (.tup [])
 have s3:=ac hp0 (.tup [.ref e,v])
 have s4:=ac hL (.lst [.ref p0])
 have hR4:=(s2.trans (s3.trans s4)) _ _ (aa (H:=H) (a:=R) (o:=.lst []))
 have nRL:R ≠ L:=aG ((s2.trans s3) _ _ aa) hL
 have fL:H L=none:=(s1.trans (s2.trans s3)).free hL
 have s14:=s1.trans (s2.trans (s3.trans s4))
 have hn4:NdIs (upd (upd (upd (upd H R (.lst [])) e (.tup [])) p0 (.tup [.ref e,v])) L (.lst [.ref p0])) ([],t) (.ref p0):=⟨p0,e,v,rfl,s4 _ _ aa,s4 _ _ (s3 _ _ aa),TrIs.same (au s14) t hv⟩
 have hL4:=aa (H:=upd (upd (upd H R (.lst [])) e (.tup [])) p0 (.tup [.ref e,v])) (a:=L) (o:=.lst [.ref p0])
 generalize upd (upd (upd (upd H R (.lst [])) e (.tup [])) p0 (.tup [.ref e,v])) L (.lst [.ref p0])=H4 at hR4 s14 hn4 hL4 ⊢
 refine⟨fun m σ H'=>∃ (x3 x4 x5:Option V) (fs xs:List (List Int × Tr)) (us vs:List V),m=wtN xs/\σ=[some v,some (.ref R),some (.ref L),x3,x4,x5]/\Same H H'/\H' R=some (.lst us)/\L2R (NdIs H') fs us/\H' L=some (.lst vs)/\L2R (NdIs H') xs vs/\fs.length+wtN xs <= 200/\fs++ndF xs=nds [] t,
  ⟨_,none,none,none,[],[([],t)],[],[.ref p0],rfl,rfl,s14,hR4,.nil,hL4,.cons hn4 .nil,?_,?_⟩,?_⟩
 ·show 0+(size t+0) <= 200
  omega
 ·unfold ndF
  simp
 rintro m σ H5 ⟨x3,x4,x5,fs,xs,us,vs,rfl,rfl,sm,hR5,gf,hL5,gx,hcnt,heq⟩
 have lvs:=gx.len
 have lus:=gf.len
 refine⟨_,rfl,(by show 0 <= sizeLine;decide),fun e1 he1=>?_⟩
 have se:=ac he1 (.lst [])
 refine⟨L,e1,vs,rfl,rfl,SqL.of (se _ _ hL5),SqL.of aa,_,rfl,?_⟩
 have hR6:=se _ _ hR5
 have hL6:=se _ _ hL5
 have gx6:=gx.imp fun _ _=>NdIs.same (au se)
 have gf6:=gf.imp fun _ _=>NdIs.same (au se)
 have sm6:=sm.trans se
 generalize upd H5 e1 (.lst [])=H6 at hR6 hL6 gx6 gf6 sm6 ⊢
 by_cases hnil:vs=[]
 ·have hx0:xs=[]:=by rw[hnil] at lvs;exact List.length_eq_zero_iff.mp lvs.symm
  subst hx0
  rw[decide_eq_true hnil]
  refine hW ⟨_,rfl,q R us H6 sm6 hR6 ?_⟩
  have e0:fs=nds [] t:=by rw[<- heq];simp[ndF]
  rw[<- e0]
  exact gf6
 ·rw[decide_eq_false hnil]
  refine mf ⟨_,fun σ' H'' h=>h,?_⟩
  obtain⟨vs',y,rfl⟩ : ∃ vs' y,vs=vs'++[y]:=⟨vs.dropLast,vs.getLast hnil,(List.dropLast_concat_getLast hnil).symm⟩
  have hxn:xs ≠ []:=fun z=>by rw[z] at lvs;simp at lvs
  obtain⟨xs',x,rfl⟩ : ∃ xs' x,xs=xs'++[x]:=⟨xs.dropLast,xs.getLast hxn,(List.dropLast_concat_getLast hxn).symm⟩
  obtain⟨g1,g2⟩ : L2R (NdIs H6) xs' vs'/\NdIs H6 x y:=by
   obtain⟨a,b,e,h1,h2⟩:=L2R.unapp gx6
   obtain⟨z,r,e2,h3,h4⟩:=h2.inv_cons
   have:=h4.nil_of
   subst this e2
   obtain⟨rfl,e4⟩:=List.append_inj' e rfl
   cases e4
   exact⟨h1,h3⟩
  obtain⟨pp,u⟩:=x
  have lpp:pp.length <= 1000:=by
   have hm:(pp,u) ∈ nds [] t:=by
    rw[<- heq,jh]
    unfold ndF
    simp[jX]
   obtain⟨r,e,h⟩:=oo t hm
   have:=dy h
   have:=bV t
   rw[e,List.nil_append]
   omega
  rw[gl] at hcnt ⊢
  have hw1:wtN [(pp,u)]=size u:=by show size u+0=_;omega
  refine⟨_,rfl,.inl ⟨rfl,_,SqL.of hL6⟩,L,_,y,rfl,rfl,hL6,by simp,?_⟩
  rw[List.dropLast_concat]
  have hL7:=aa (H:=H6) (a:=L) (o:=.lst vs')
  have hR7:upd H6 L (.lst vs') R=some (.lst us):=by rw[av nRL];exact hR6
  have tL:=aI (ys:=vs') hL6
  have sm7:Same H (upd H6 L (.lst vs')):=aN fL sm6
  have gx7:=g1.imp fun _ _=>NdIs.same tL
  have gf7:=gf6.imp fun _ _=>NdIs.same tL
  obtain⟨a,b,yu,rfl,ha,hb,hu⟩:=NdIs.same tL g2
  generalize upd H6 L (.lst vs')=H7 at hL7 hR7 sm7 gx7 gf7 ha hb hu ⊢
  have hb':H7 b=some (.tup (pp.map V.int)):=hb
  have hu':TrIs H7 u yu:=hu
  refine⟨a,_,rfl,SqT.of ha,rfl,_,_,rfl,_,_,rfl,rfl,?_⟩
  refine⟨_,rfl,.inl ⟨rfl,_,SqL.of hR7⟩,_,rfl,_,rfl,(by show 2 <= sizeLine;decide),fun n1 hn1=>?_⟩
  have s8:=ac hn1 (.tup [.ref b,yu])
  refine⟨R,us,_,rfl,rfl,s8 _ _ hR7,bM (by omega),?_⟩
  have nnR:n1 ≠ R:=bj hR7 hn1
  have hR9:=aa (H:=upd H7 n1 (.tup [.ref b,yu])) (a:=R) (o:=.lst (us++[.ref n1]))
  have t9:SameT H7 (upd (upd H7 n1 (.tup [.ref b,yu])) R (.lst (us++[.ref n1]))):=(au s8).trans (aI (s8 _ _ hR7))
  have hn9:upd (upd H7 n1 (.tup [.ref b,yu])) R (.lst (us++[.ref n1])) n1=some (.tup [.ref b,yu]):=by rw[av nnR,aa]
  have hL9:upd (upd H7 n1 (.tup [.ref b,yu])) R (.lst (us++[.ref n1])) L=some (.lst vs'):=by rw[av nRL.symm];exact s8 _ _ hL7
  have sm9:Same H (upd (upd H7 n1 (.tup [.ref b,yu])) R (.lst (us++[.ref n1]))):=aN hR (sm7.trans s8)
  generalize upd (upd H7 n1 (.tup [.ref b,yu])) R (.lst (us++[.ref n1]))=H9 at hR9 t9 hn9 hL9 sm9 ⊢
  have gf9:L2R (NdIs H9) (fs++[(pp,u)]) (us++[.ref n1]):=(gf7.imp fun _ _=>NdIs.same t9).snoc ⟨n1,b,yu,rfl,hn9,t9 _ _ hb',TrIs.same t9 u hu'⟩
  have gx9:=gx7.imp fun _ _=>NdIs.same t9
  have hb9:=t9 _ _ hb'
  obtain⟨p,bb,ws,rfl,hp,hbb,hws⟩:=(TrIs.same t9 u hu').op
  have lws:=hws.len
  have szu:=eS u
  have slu:=dS u.bs
  have kl:=iB pp u.bs 1
  have lx':=sN xs'
  have lg:=gx9.len
  refine⟨_,rfl,p,_,2,_,rfl,rfl,SqT.of hp,rfl,bb,ws,rfl,.inr (SqT.of hbb),ws.length,rfl,by omega,?_⟩
  refine qZ (fun i σ H'=>∃ (x5:Option V) (vs2:List V),σ=[some v,some (.ref R),some (.ref L),some (.ref b),some (.ref p),x5]/\Same H H'/\SameT H9 H'/\H' R=some (.lst (us++[.ref n1]))/\H' L=some (.lst vs2)/\L2R (NdIs H') (xs'++(cO pp 1 u.bs).reverse.take i) vs2)
   ⟨_,_,rfl,sm9,SameT.refl _,hR9,hL9,by rw[List.take_zero,List.append_nil];exact gx9⟩ ?_ ?_
  ·rintro i σ H' hi ⟨x5',vs2,rfl,smi,tt,hRi,hLi,gi⟩
   have ek:((ws.length:Int) - 1 - (i:Nat))=((ws.length - 1 - i:Nat):Int):=by omega
   rw[ek]
   generalize hk:ws.length - 1 - i=k
   have hkl:k < ws.length:=by omega
   obtain⟨z,hz'⟩:=aH hkl
   obtain⟨c,hc,hcz⟩:=hws.get hz'
   have lgi:=gi.len
   have hp':=tt _ _ hp
   have hbb':=tt _ _ hbb
   have hbi:=tt _ _ hb9
   refine⟨_,rfl,.inl ⟨rfl,_,SqL.of hLi⟩,_,rfl,_,rfl,_,_,rfl,rfl,(by show 1 <= sizeLine;decide),fun t1 ht1=>?_⟩
   have s10:=ac ht1 (.tup [.int ((k:Int)+1)])
   refine⟨b,t1,_,_,rfl,rfl,s10 _ _ hbi,aa,bP (by rw[List.length_map,List.length_singleton];omega),fun t2 H11 s11 ht2=>?_⟩
   have s1011:=s10.trans s11
   refine⟨_,rfl,p,_,2,_,rfl,rfl,SqT.of (s1011 _ _ hp'),rfl,_,rfl,bb,_,_,z,rfl,rfl,SqT.of (s1011 _ _ hbb'),bt hz',(by show 2 <= sizeLine;decide),fun t3 ht3=>?_⟩
   have s12:=ac ht3 (.tup [.ref t2,z])
   have s1012:=s1011.trans s12
   refine⟨L,_,_,rfl,rfl,s1012 _ _ hLi,bM (by rw[lgi,List.length_append,List.length_take];omega),?_⟩
   have ntL:t3 ≠ L:=bj (s1011 _ _ hLi) ht3
   have tL2:=aI (ys:=vs2++[.ref t3]) (s1012 _ _ hLi)
   have tt2:=(au s1012).trans tL2
   refine⟨_,_,rfl,aN fL (smi.trans s1012),tt.trans tt2,by rw[av nRL];exact s1012 _ _ hRi,aa,?_⟩
   have hkd:(cO pp 1 u.bs).reverse[i]?=some (pp++[1+(k:Int)],c):=by
    rw[List.getElem?_reverse (by omega),kl]
    have e1:u.bs.length - 1 - i=k:=by omega
    rw[e1]
    exact fc pp u.bs 1 hc
   rw[aJ hkd,<- List.append_assoc]
   refine (gi.imp fun _ _=>NdIs.same tt2).snoc ⟨t3,t2,z,rfl,by rw[av ntL,aa],?_,TrIs.same (tt.trans tt2) c hcz⟩
   have e2:(pp++[1+(k:Int)]).map V.int=pp.map V.int++[V.int ((k:Int)+1)]:=by rw[List.map_append,Int.add_comm];rfl
   show _=some (HO.tup ((pp++[1+(k:Int)]).map V.int))
   rw[e2]
   exact tL2 _ _ (s12 _ _ ht2)
  ·rintro σ H' ⟨x5',vs2,rfl,smi,tt,hRi,hLi,gi⟩
   have et:(cO pp 1 u.bs).reverse.take ws.length=(cO pp 1 u.bs).reverse:=List.take_of_length_le (by rw[List.length_reverse];omega)
   rw[et] at gi
   have wk:wtN (cO pp 1 u.bs).reverse=be u.bs:=by rw[sM,jF]
   refine⟨wtN (xs'++(cO pp 1 u.bs).reverse),by rw[gl];omega,_,_,_,fs++[(pp,u)],xs'++(cO pp 1 u.bs).reverse,us++[.ref n1],vs2,rfl,rfl,smi,hRi,gf9.imp fun _ _=>NdIs.same tt,hLi,gi,by rw[gl,List.length_append,List.length_singleton];omega,?_⟩
   rw[<- heq,jh,jh]
   have e3:ndF (cO pp 1 u.bs).reverse=iy pp 1 u.bs:=by unfold ndF;rw[List.reverse_reverse,jg]
   have e4:ndF [(pp,u)]=(pp,u)::iy pp 1 u.bs:=by unfold ndF;rw[List.reverse_singleton,List.flatMap_cons,List.flatMap_nil,List.append_nil,jX]
   rw[e3,e4]
   simp
end
def xN:Sp:=fun vs H Q _=>∃ (t w:Tr) (v:V) (q:List Int) (a:Addr) (c:Int),vs=[v,.ref a,.int c]/\TrIs H t v/\H a=some (.tup (q.map V.int))/\atT q t=some w/\q.length <= 60/\size t <= 60 /\
 ∀ (r:List Int) (b:Addr) (H':Hp),Same H H'->H' b=some (.tup (r.map V.int))->atT r t=none->r.length <= 62->Q (.ref b) H'
theorem wQ {m:Nat} (hm:m <= 1000) {f c:Int} (hf:0 <= f):∃ o:Int,atI [V.int 0,.int (-1),.int (0 - (m:Int)),.int ((m:Int)+1),.int ((m:Int)+2),.int (f+10 ^ Int.toNat 18),.int (0 - f)] (c % 7)=some (.int o)/\(o < 1\/(m:Int) < o):=by
 have d0:=Int.emod_nonneg c (show (7:Int) ≠ 0 by decide)
 have d1:=Int.emod_lt_of_pos c (show (0:Int) < 7 by decide)
 have e18:(10 ^ Int.toNat 18:Int)=1000000000000000000:=by decide
 have:c % 7=0\/c % 7=1\/c % 7=2\/c % 7=3\/c % 7=4\/c % 7=5\/c % 7=6:=by omega
 rcases this with e | e | e | e | e | e | e <;> rw[e]
 ·exact⟨_,rfl,by omega⟩
 ·exact⟨_,rfl,by omega⟩
 ·exact⟨_,rfl,by omega⟩
 ·exact⟨_,rfl,by omega⟩
 ·exact⟨_,rfl,by omega⟩
 ·exact⟨_,rfl,by rw[e18];omega⟩
 ·exact⟨_,rfl,by omega⟩
theorem pD {xs:List V} {k:Int} (h0:0 <= k):fI xs (some k) none=xs.drop k.toNat:=by
 obtain⟨m,rfl⟩:=Int.eq_ofNat_of_zero_le h0
 exact cR xs m
section
variable {P:Program} {w:World} {K:W.Frag} {mg:Str->Option Value} {base:Heap} {T:Adr}
theorem wO (X:Tx K mg T):FnOk P w K mg base CX0 1 T.qBL T.d_qBL ["_law_tree", "_law_path", "_law_cell"] xN:=by
 refine X.F_qBL.okQ sc_qBL (fun vs H Q E h=>?_) (fun cdv A outer s H vs Q E hr h=>?_)
 ·obtain⟨_,_,_,_,_,_,rfl,_⟩:=h
  rfl
 obtain⟨t,wt,v,q,a,c,rfl,hv,ha,hat,hq,hz,k⟩:=h
 refine⟨_,(ag (am (i:=3) sc_qBL.nd rfl (Or.inl rfl) (aj aM (qv 2) (aj bw (ax call_len_seq rfl X.z_len PySem.boot_len (qaN (qv 1) ae)) af))) (ag (am (i:=4) sc_qBL.nd rfl (Or.inl rfl) (qv 0)) (ag (bq PassesOwn.never rfl (cw (bc eA (qv 1) bA (bz (qv 3)))) (az (i:=5) sc_qBL.nd rfl (Or.inl rfl)) (ai (am (i:=4) sc_qBL.nd rfl (Or.inl rfl) (ao ar (ao ar (qv 4) af (fun _ _=>rfl)) (aj cx (qv 5) af) (fun _ _=>rfl))))) (ag (am (i:=6) sc_qBL.nd rfl (Or.inl rfl) (ax call_len_seq rfl X.z_len PySem.boot_len (qaS (ao ar (qv 4) af (fun _ _=>rfl)) ae))) (ag (am (i:=7) sc_qBL.nd rfl (Or.inl rfl) (aj aM (aj aO (qv 2) af) (aj iq af af))) (ag (am (i:=8) sc_qBL.nd rfl (Or.inl rfl) (ao aS (aV (qaC af (qaU (qf jI af) (qaB (aj cx af (qv 6)) (qaB (aj bw (qv 6) af) (qaB (aj bw (qv 6) af) (qaB (aj bw (qv 7) (aj iq af af)) (qaB (aj cx af (qv 7)) ae)))))))) (aj aM (qv 2) af) (fun _ _=>rfl))) (ag (bp (aK bL (aj aM (aj aO (qv 2) af) af) af (aP _)) (ai (ay (aj cy (bc eA (qv 1) bA (bz (qv 3))) (ak (qaN (qv 8) ae))))) aL) (ai (ay (aj cy (aj cy (bc eA (qv 1) bA (bz (qv 3))) (ak (qaN (qv 8) ae))) (bc eA (qv 1) (bz (aj bw (qv 3) af)) bA))))))))))),?_⟩
 dsimp only[cm]
 have lm:(q.map V.int).length=q.length:=List.length_map ..
 have hpos:(0:Int) < ((q.map V.int).length:Int)+1:=by omega
 have j0:=Int.emod_nonneg c (show ((q.map V.int).length:Int)+1 ≠ 0 by omega)
 have j1:=Int.emod_lt_of_pos c hpos
 refine⟨_,rfl,_,rfl,a,_,rfl,.inr (SqT.of ha),_,_,rfl,rfl,_,_,rfl,rfl,hpos,?_⟩
 obtain⟨j,hj⟩:=Int.eq_ofNat_of_zero_le j0
 have hjq:j <= q.length:=by omega
 dsimp only
 rw[hj]
 refine⟨_,rfl,?_⟩
 refine⟨_,rfl,_,rfl,_,rfl,a,_,rfl,ha,fun a2 H2 s2 ha2=>?_⟩
 rw[bS,<- List.map_take] at ha2
 have pre:∀ i,i <= q.length->∃ u,atT (q.take i) t=some u:=fun i _=>by
  have e:=hat
  rw[<- List.take_append_drop i q,dO] at e
  cases h:atT (q.take i) t with
  | none=>rw[h] at e;cases e
  | some u=>exact⟨u,rfl⟩
 refine⟨a2,rfl,⟨_,SqT.of ha2⟩,di (K:=K) (a:=a2) (xs:=(q.take j).map V.int) (fun i σ H'=>H'=H2/\∃ u y x5,σ=[some v,some (.ref a),some (.int c),some (.int (j:Int)),some y,x5,none,none,none]/\TrIs H2 u y/\atT (q.take i) t=some u) ⟨rfl,t,v,none,rfl,TrIs.same (au s2) t hv,rfl⟩ (fun i σ H' _ ⟨e,_⟩=>by rw[e];exact SqT.of ha2) ?_ ?_⟩
 ·rintro i y σ H' hy ⟨rfl,u,y',x5,rfl,hu,hui⟩
  rw[List.getElem?_map] at hy
  obtain⟨n,hn,rfl⟩:=Option.map_eq_some_iff.mp hy
  have hij:i < j:=by have:=aD hn;rw[List.length_take] at this;omega
  have hqn:q[i]?=some n:=by rw[List.getElem?_take,if_pos hij] at hn;exact hn
  obtain⟨c1,hc1⟩:=pre (i+1) (by omega)
  have hc2:atT [n] u=some c1:=by
   rw[aJ hqn,dO,hui] at hc1
   exact hc1
  obtain⟨n1,n2,c',hc',_,hcc⟩:=dA hc2
  cases hcc
  obtain⟨p,b,us,rfl,hp,hb,hus⟩:=hu.op
  have lus:=hus.len
  obtain⟨z,hz'⟩:=aH (xs:=us) (i:=(n - 1).toNat) (by omega)
  obtain⟨c'',hc'',hcz⟩:=hus.get hz'
  rw[hc'] at hc''
  cases hc''
  have en:n - 1=(((n - 1).toNat:Nat):Int):=by omega
  exact⟨_,rfl,p,_,2,_,rfl,rfl,SqT.of hp,rfl,_,rfl,_,_,rfl,rfl,b,us,_,z,rfl,rfl,SqT.of hb,by rw[en];exact bt hz',rfl,_,z,_,rfl,hcz,hc1⟩
 ·rintro σ H' ⟨rfl,u,y,x5,rfl,hu,hui⟩
  have ej:((q.take j).map V.int).length=j:=by rw[List.length_map,List.length_take];omega
  rw[ej] at hui
  obtain⟨p,b,us,rfl,hp,hb,hus⟩:=hu.op
  have lus:=hus.len
  have zu:=kr hui
  have lbs:u.bs.length < 61:=sF (by omega)
  refine⟨_,rfl,p,_,2,_,rfl,rfl,SqT.of hp,rfl,b,us,rfl,.inr (SqT.of hb),?_⟩
  refine⟨_,rfl,_,_,rfl,rfl,⟨by decide,by decide⟩,_,_,rfl,rfl,⟨by decide,by decide,by decide⟩,_,_,rfl,rfl,(by show (0:Int) < 10 ^ Int.toNat 18;decide),?_⟩
  have f0:=Int.emod_nonneg (c / 7) (show (10 ^ Int.toNat 18:Int) ≠ 0 by decide)
  obtain⟨o,ho,hodd⟩:=wQ (m:=us.length) (by omega) (f:=c / 7 % 10 ^ Int.toNat 18) (c:=c) f0
  refine⟨_,rfl,_,rfl,_,_,rfl,rfl,_,rfl,_,_,rfl,rfl,_,rfl,_,_,rfl,rfl,_,rfl,_,_,rfl,rfl,⟨by decide,by decide,by decide⟩,_,_,rfl,rfl,_,rfl,_,_,rfl,rfl,(by show 7 <= sizeLine;decide),fun l hl=>?_⟩
  have s3:=ac hl (.lst [V.int 0,.int (-1),.int (0 - (us.length:Int)),.int ((us.length:Int)+1),.int ((us.length:Int)+2),.int (c / 7 % 10 ^ Int.toNat 18+10 ^ Int.toNat 18),.int (0 - c / 7 % 10 ^ Int.toNat 18)])
  refine⟨_,rfl,_,_,rfl,rfl,(by show (0:Int) < 7;decide),l,_,_,_,rfl,rfl,SqL.of aa,ho,?_⟩
  have a3:=s3 _ _ (s2 _ _ ha)
  have hodd':o < 1\/(u.bs.length:Int) < o:=by rw[<- lus];exact hodd
  have tk:((q.map V.int).take j).length <= 60:=by rw[List.length_take,lm];omega
  refine⟨_,rfl,_,_,rfl,rfl,⟨by decide,by decide⟩,_,_,rfl,rfl,(by show (0:Int) < 3;decide),rfl,_,rfl,cW (fun _=>?_) (fun _=>?_)⟩
  ·refine⟨_,rfl,_,rfl,_,rfl,a,_,rfl,a3,fun b1 H4 s4 hb1=>⟨_,rfl,(by show 1 <= sizeLine;decide),fun b2 hb2=>?_⟩⟩
   rw[bS] at hb1
   have s5:=ac hb2 (.tup [.int o])
   refine⟨b1,b2,_,_,rfl,rfl,s5 _ _ hb1,aa,bP (by rw[List.length_singleton];omega),fun b3 H6 s6 hb3=>k (q.take j++[o]) b3 H6 (s2.trans (s3.trans (s4.trans (s5.trans s6)))) ?_ (jz hui hodd') ?_⟩
   ·rw[hb3,List.map_append,List.map_take]
    rfl
   ·rw[List.length_append,List.length_take,List.length_singleton]
    omega
  ·refine⟨_,rfl,_,rfl,_,rfl,a,_,rfl,a3,fun b1 H4 s4 hb1=>⟨_,rfl,(by show 1 <= sizeLine;decide),fun b2 hb2=>?_⟩⟩
   rw[bS] at hb1
   have s5:=ac hb2 (.tup [.int o])
   refine⟨b1,b2,_,_,rfl,rfl,s5 _ _ hb1,aa,bP (by rw[List.length_singleton];omega),fun b3 H6 s6 hb3=>?_⟩
   have s46:=s4.trans (s5.trans s6)
   refine⟨_,rfl,_,rfl,_,_,rfl,rfl,_,rfl,a,_,rfl,s46 _ _ a3,fun b4 H7 s7 hb4=>?_⟩
   rw[pD (by omega),show ((j:Int)+1).toNat=j+1 by omega] at hb4
   refine⟨b3,b4,_,_,rfl,rfl,s7 _ _ hb3,hb4,bP (by rw[List.length_append,List.length_drop,List.length_singleton,lm];omega),fun b5 H8 s8 hb5=>k (q.take j++o::q.drop (j+1)) b5 H8 (s2.trans (s3.trans (s46.trans (s7.trans s8)))) ?_ (jz hui hodd') ?_⟩
   ·rw[hb5,List.map_append,List.map_take,List.map_cons,List.map_drop,List.append_assoc]
    rfl
   ·rw[List.length_append,List.length_take,List.length_cons,List.length_drop]
    omega
end
end K41
namespace K41
open PySem L2 TR FT SP
open TM
theorem rY {H:Hp}:∀ {ps:List Pr} {vs:List V},L2R (IsP H) ps vs->IsPs H ps vs
 | _,_,.nil=>rfl
 | _,_,.cons h r=>⟨_,_,rfl,h,rY r⟩
theorem ef {α β:Type} [DecidableEq β] (f:α->β):∀ {l:List α},(l.map f).Nodup->∀ {a:α},a ∈ l->l.filter (fun x=>decide (f x=f a))=[a]
 | [],_,a,h=>nomatch h
 | b::l,hn,a,h=>by
  have hc:=List.nodup_cons.mp (show (f b::l.map f).Nodup from hn)
  rcases List.mem_cons.mp h with rfl | h
  ·rw[List.filter_cons_of_pos (by simp)]
   congr 1
   refine List.filter_eq_nil_iff.mpr fun x hx=>?_
   simp only[decide_eq_true_eq]
   exact fun e=>hc.1 (by rw[<- e];exact List.mem_map.mpr ⟨x,hx,rfl⟩)
  ·have ne:¬ f b=f a:=fun e=>hc.1 (by rw[e];exact List.mem_map.mpr ⟨a,h,rfl⟩)
   rw[List.filter_cons_of_neg (by simpa using ne)]
   exact ef f hc.2 h
def tH:Sp:=fun vs H Q _=>∃ (a:Addr) (p:List Int) (k:Int) (n:Str),vs=[.ref a,.int k,.str n]/\H a=some (.tup (p.map V.int))/\p.length <= 1000/\∀ y H',Same H H'->SpIs H' (bT p (k,n)) y->Q y H'
section
variable {P:Program} {w:World} {K:W.Frag} {mg:Str->Option Value} {base:Heap} {T:Adr}
theorem ix (X:Tx K mg T):∀ n,FnOk P w K mg base CX0 (n+1) T.qAL T.d_qAL ["_law_term_here"] (mY n)
 | 0=>by
  have G_qAL:FnOk P w K mg base CX0 0 T.qAL T.d_qAL ["_law_term_here"] (fun _ _ _ _=>False):=⟨fun _ _ _ _ h=>h.elim,fun _ _ _ _ _ _ _ _ _ _ _ _ _ h=>h.elim⟩
  refine X.F_qAL.okQ sc_qAL (fun vs H Q E h=>?_) (fun cdv A outer s H vs Q E hr h=>?_)
  ·obtain⟨_,_,rfl,_⟩:=h
   rfl
  ·obtain⟨t,_,_,_,hd,_⟩:=h
   have:=iH t
   omega
 | n+1=>by
  have G_qAL:=ix X n
  refine X.F_qAL.okQ sc_qAL (fun vs H Q E h=>?_) (fun cdv A outer s H vs Q E hr h=>?_)
  ·obtain⟨_,_,rfl,_⟩:=h
   rfl
  obtain⟨t,v,rfl,hv,hd,hpt,q⟩:=h
  refine⟨_,(ag (bp (aK bL (ao ar (qv 0) af (fun _ _=>rfl)) aw (aP _)) (ai (ay (aV (qaT (ak (qaS (ao ar (qv 0) af (fun _ _=>rfl)) (qaS (ao ar (qv 0) af (fun _ _=>rfl)) ae))) ae)))) aL) (ag (am (i:=1) sc_qAL.nd rfl (Or.inr rfl) (aV ae)) (ag (bp (aK bL (ao ar (qv 0) af (fun _ _=>rfl)) aw (aP _)) (ai (bq PassesOwn.never rfl (cw (ao ar (qv 0) af (fun _ _=>rfl))) (az (i:=2) sc_qAL.nd rfl (Or.inl rfl)) (ai (am (i:=1) sc_qAL.nd rfl (Or.inr rfl) (aj dY (qv 1) (bH (ys:=["_law_found"]) (js:=[1]) rfl rfl (bB (aq G_qAL hr rfl X.m_qAL X.F_qAL.kp X.b_qAL .nil aW (qaN (qv 2) ae))) (fun _ _ _ _ _=>db (aK (lX (K:=K) rfl hr.units) (qv 0) (qv 1) rfl)) (fun _ _ _ _ _=>(qv 0)))))))) aL) (ai (ay (qv 1)))))),?_⟩
  dsimp only[cm]
  have hcs:(∃ (a:Addr) (z:Str) (r:List V),v=.ref a/\H a=some (.tup (.str z::r))/\decide (V.str z=V.str "of")=false/\decide (V.str z=V.str "call")=false/\named t=[])\/(∃ k z,t=.val k z)\/(∃ w ts,t=.call w ts):=by
   cases t with
   | val k z=>exact .inr (.inl ⟨k,z,rfl⟩)
   | call w ts=>exact .inr (.inr ⟨w,ts,rfl⟩)
   | num z=>
    unfold TmIs at hv
    obtain⟨a,e,ha⟩:=hv
    exact .inl ⟨a,_,_,e,ha,by decide +kernel,by decide +kernel,by rw[named]⟩
   | text z=>
    unfold TmIs at hv
    obtain⟨a,e,ha⟩:=hv
    exact .inl ⟨a,_,_,e,ha,by decide +kernel,by decide +kernel,by rw[named]⟩
   | row=>
    unfold TmIs at hv
    obtain⟨a,e,ha⟩:=hv
    exact .inl ⟨a,_,_,e,ha,by decide +kernel,by decide +kernel,by rw[named]⟩
   | mark=>
    unfold TmIs at hv
    obtain⟨a,e,ha⟩:=hv
    exact .inl ⟨a,_,_,e,ha,by decide +kernel,by decide +kernel,by rw[named]⟩
  rcases hcs with ⟨a,z,r,e,ha,h1,h2,h3⟩ | ⟨k,z,rfl⟩ | ⟨w,ts,rfl⟩
  ·subst e
   refine⟨_,rfl,a,_,0,_,rfl,rfl,SqT.of ha,dB _ _,rfl,_,rfl,pN h1 ?_⟩
   refine⟨(by show 0 <= sizeLine;decide),fun f hf=>?_⟩
   have s1:=ac hf (.lst [])
   refine⟨_,rfl,a,_,0,_,rfl,rfl,SqT.of (s1 _ _ ha),dB _ _,rfl,_,rfl,pN h2 ?_⟩
   refine⟨_,rfl,q f [] _ hf s1 aa ?_⟩
   rw[h3]
   rfl
  ·unfold TmIs at hv
   obtain⟨a,rfl,ha⟩:=hv
   refine⟨_,rfl,a,_,0,_,rfl,rfl,SqT.of ha,rfl,rfl,_,rfl,vy (by decide +kernel) ?_⟩
   refine⟨_,rfl,a,_,1,_,rfl,rfl,SqT.of ha,rfl,_,rfl,a,_,2,_,rfl,rfl,SqT.of ha,rfl,(by show 2 <= sizeLine;decide),fun p hp=>⟨(by show 1 <= sizeLine;decide),fun l hl=>?_⟩⟩
   have s1:=ac hp (.tup [V.int k,V.str z])
   have s2:=ac hl (.lst [V.ref p])
   refine q l _ _ (s1.free hl) (s1.trans s2) aa ?_
   rw[named]
   exact IsPs.one ⟨p,rfl,s2 _ _ aa⟩
  ·unfold TmIs at hv
   obtain⟨a,b,us,rfl,ha,hb,hn,hs⟩:=hv
   refine⟨_,rfl,a,_,0,_,rfl,rfl,SqT.of ha,rfl,rfl,_,rfl,pN (by decide +kernel) ?_⟩
   refine⟨(by show 0 <= sizeLine;decide),fun f hf=>?_⟩
   have s1:=ac hf (.lst [])
   have hlen:=hs.len
   refine⟨_,rfl,a,_,0,_,rfl,rfl,SqT.of (s1 _ _ ha),rfl,rfl,_,rfl,vy (by decide +kernel) ?_⟩
   refine⟨_,rfl,a,_,2,_,rfl,rfl,SqT.of (s1 _ _ ha),rfl,b,rfl,⟨_,SqT.of (s1 _ _ hb)⟩,di (K:=K) (a:=b) (xs:=us) (fun i σ H'=>∃ f ys x2,σ=[some (.ref a),some (.ref f),x2]/\Same H H'/\H f=none/\H' f=some (.lst ys)/\IsPs H' ((ts.take i).foldl (fun a u=>uni a (named u)) []) ys)
    ⟨f,[],none,rfl,s1,hf,aa,rfl⟩ (fun i σ H' _ ⟨_,_,_,_,sm,_⟩=>SqT.of (sm _ _ hb)) ?_ ?_⟩
   ·rintro i x σ H' hx ⟨f,ys,x2,rfl,sm,nf,hf',hps⟩
    obtain⟨u,hu,hux⟩:=hs.get hx
    have hmem:u ∈ inner (.call w ts):=List.mem_of_getElem? hu
    have hdu:=fv hmem
    have hpu:=eY hmem
    have hacc:=kc (.call w ts) i
    rw[show inner (.call w ts)=ts from rfl] at hacc
    have hst:(ts.take (i+1)).foldl (fun a u=>uni a (named u)) []=uni ((ts.take i).foldl (fun a u=>uni a (named u)) []) (named u):=by
     rw[aJ hu,List.foldl_append]
     rfl
    rw[hst,fM (ji u)]
    generalize (ts.take i).foldl (fun a u=>uni a (named u)) []=acc at hps hacc
    refine⟨_,rfl,_,rfl,u,x,rfl,TmIs.same (au sm) u hux,by omega,by omega,fun p zs H3 hp3 s3 hz3 hps3=>⟨p,rfl,⟨_,SqL.of hz3⟩,fun D nD=>?_⟩⟩
    have lz:=hps3.len
    have lnm:=cM u
    have hf3:=s3 _ _ hf'
    have hps':=hps.same (au s3)
    refine iK (K:=K) (xs:=zs) ((named u).map fun p=>!decide (p ∈ acc)) (bM (by omega)) (by rw[List.length_map];omega) (SqL.of hz3) nD (fun j y kb G hy hk sm4 Q' q'=>?_) (fun y G Q' q'=>⟨_,rfl,q'⟩) (fun G2 s4 hD=>?_)
    ·obtain⟨pr,hpr,hprv⟩:=hps3.get hy
     rw[List.getElem?_map,hpr] at hk
     cases hk
     refine⟨_,rfl,_,rfl,f,ys,daP pr,_,rfl,SqL.of (sm4 _ _ hf3),uM (IsP.same (au sm4) hprv),oN (hps'.same (au sm4)),Nat.le_trans (vd _) (by decide),_,rfl,?_⟩
     rw[rF]
     exact q' _ (Same.refl _)
    ·have lk:=gO zs ((named u).map fun p=>!decide (p ∈ acc))
     have lps:=hps.len
     have hkp:L2R (IsP G2) ((named u).filter fun p=>!decide (p ∈ acc)) (cP zs ((named u).map fun p=>!decide (p ∈ acc))):=gK _ (gP (hps3.same (au s4)))
     generalize cP zs ((named u).map fun p=>!decide (p ∈ acc))=ks at hD lk hkp
     refine⟨f,D,ys,ks,rfl,rfl,s4 _ _ hf3,hD,bP (by omega),fun f2 nf2=>?_⟩
     have s5:=ac nf2 (.lst (ys++ks))
     refine⟨f2,_,_,rfl,sm.trans (s3.trans (s4.trans s5)),(sm.trans (s3.trans s4)).free nf2,aa,?_⟩
     exact ((hps'.same (au s4)).same (au s5)).app (rY (hkp.imp fun _ _ h=>IsP.same (au s5) h))
   ·rintro σ H' ⟨f,ys,x2,rfl,sm,nf,hf',hps⟩
    rw[List.take_of_length_le (by omega)] at hps
    refine⟨_,rfl,q f ys H' nf sm hf' ?_⟩
    rw[named,dZ]
    exact hps
theorem qI (X:Tx K mg T):FnOk P w K mg base CX0 1 T.qBH T.d_qBH ["_law_path", "_law_k", "_law_name"] tH:=by
 refine X.F_qBH.okQ vZ (fun vs H Q E h=>?_) (fun cdv A outer s H vs Q E hr h=>?_)
 ·obtain⟨_,_,_,_,rfl,_⟩:=h
  rfl
 obtain⟨a,p,k,n,rfl,ha,lp,q⟩:=h
 refine⟨_,(ag (bp (aK bL (qv 1) af (aP _)) (ai (ay (ak (qaN (qv 0) (qaN (qv 2) ae))))) aL) (ai (ay (ak (qaB (aj cy (qv 0) (ak (qaN (qv 1) ae))) (qaN (qv 2) ae)))))),?_⟩
 refine⟨_,rfl,rfl,_,rfl,cW (fun h=>?_) (fun h=>?_)⟩
 ·have h0:k=0:=V.int.inj h
  refine⟨_,rfl,_,rfl,(by show 2 <= sizeLine;decide),fun x nx=>?_⟩
  have s1:=ac nx (.tup [.ref a,.str n])
  refine q _ _ s1 ⟨x,a,rfl,aa,?_⟩
  unfold bT
  rw[if_pos h0]
  exact s1 _ _ ha
 ·have h0:¬ k=0:=fun z=>h (by rw[z])
  refine⟨_,rfl,_,rfl,(by show 1 <= sizeLine;decide),fun x nx=>?_⟩
  have s1:=ac nx (.tup [.int k])
  refine⟨a,x,_,_,rfl,rfl,s1 _ _ ha,aa,bP (by rw[List.length_map];show p.length+1 <= 100000;omega),fun y H2 s2 hy=>?_⟩
  refine⟨_,rfl,(by show 2 <= sizeLine;decide),fun z nz=>?_⟩
  have s3:=ac nz (.tup [.ref y,.str n])
  refine q _ _ (s1.trans (s2.trans s3)) ⟨z,y,rfl,aa,?_⟩
  unfold bT
  rw[if_neg h0]
  show _=some (HO.tup ((p++[k]).map V.int))
  rw[List.map_append]
  exact s3 _ _ hy
end
noncomputable def spk (sp:bJ):SpK:=(sp.1.map Sum.inl,Sum.inr sp.2)
theorem iZ {a b:bJ} (h:spk a=spk b):a=b:=by
 obtain⟨p,n⟩:=a
 obtain⟨q,m⟩:=b
 unfold spk at h
 obtain⟨h1,h2⟩:=Prod.mk.inj h
 have e1:p=q:=by
  have:∀ p q:List Int,p.map (Sum.inl:Int->Key)=q.map Sum.inl->p=q:=fun p=>by
   induction p with
   | nil=>intro q h;cases q with
    | nil=>rfl
    | cons _ _=>cases h
   | cons x p ih=>intro q h;cases q with
    | nil=>cases h
    | cons y q=>
     obtain⟨a,b⟩:=List.cons.inj h
     rw[Sum.inl.inj a,ih q b]
  exact this p q h1
 have e2:n=m:=Sum.inr.inj h2
 rw[e1,e2]
theorem oE (p:List Int):(p.map (Sum.inl:Int->Key)).map kV=p.map V.int:=by
 rw[List.map_map]
 rfl
theorem jp {H:Hp} {sp:bJ} {a:Addr} (h:SpIs H sp (.ref a)):keyS H (spk sp) a:=by
 obtain⟨a',b,e,ha,hb⟩:=h
 cases e
 exact⟨b,ha,by rw[hb];unfold spk;rw[oE]⟩
theorem tI {H:Hp} {sp:bJ} {a:Addr} (h:keyS H (spk sp) a):SpIs H sp (.ref a):=by
 obtain⟨b,ha,hb⟩:=h
 refine⟨a,b,rfl,ha,?_⟩
 rw[hb]
 unfold spk
 rw[oE]
theorem mK {xs:List (SpK × Addr × V)} {k:SpK} (h:∀ x ∈ xs,x.1 ≠ k):mB xs k=none:=by
 unfold mB
 rw[List.find?_eq_none.mpr fun x hx=>by simpa using h x hx]
 rfl
theorem mJ {xs:List (SpK × Addr × V)} {k:SpK} (h:∃ x ∈ xs,x.1=k):(mB xs k).isSome=true:=by
 obtain⟨x,hx,e⟩:=h
 unfold mB
 cases hf:xs.find? (fun x=>decide (x.1=k)) with
 | none=>exact absurd (decide_eq_true e) (by have:=List.find?_eq_none.mp hf x hx;exact this)
 | some y=>rfl
theorem sR {xs:List (SpK × Addr × V)} {k:SpK} (h:∃ x ∈ xs,x.1=k):∃ x ∈ xs,x.1=k/\mB xs k=some x.2.2:=by
 obtain⟨x,hx,e⟩:=h
 unfold mB
 cases hf:xs.find? (fun x=>decide (x.1=k)) with
 | none=>exact absurd (decide_eq_true e) (by have:=List.find?_eq_none.mp hf x hx;exact this)
 | some y=>exact⟨y,List.mem_of_find?_eq_some hf,by simpa using List.find?_some hf,rfl⟩
structure HInv (sps:List bJ) (val:bJ->List bJ) (Dn:bJ->Prop) (H:Hp) (xs:List (SpK × Addr × V)):Prop where
 keys:xs.map Prod.fst=sps.map spk
 vs:∀ (sp:bJ) (x:SpK × Addr × V),x ∈ xs->x.1=spk sp->∃ l us,x.2.2=.ref l/\H l=some (.lst us)/\(Dn sp->L2R (SpIs H) (val sp) us)/\(¬ Dn sp->us=[])
theorem HInv.to {sps:List bJ} {val:bJ->List bJ} {Dn:bJ->Prop} {H H':Hp} {xs:List (SpK × Addr × V)} (h:HInv sps val Dn H xs) (kl:∀ l us,H l=some (.lst us)->H' l=some (.lst us)) (kt:SameT H H'):HInv sps val Dn H' xs:=by
 refine⟨h.keys,fun sp x hx e=>?_⟩
 obtain⟨l,us,h1,h2,h3,h4⟩:=h.vs sp x hx e
 exact⟨l,us,h1,kl _ _ h2,fun d=>(h3 d).imp fun _ _ z=>SpIs.same kt z,h4⟩
theorem HInv.same {sps:List bJ} {val:bJ->List bJ} {Dn:bJ->Prop} {H H':Hp} {xs:List (SpK × Addr × V)} (h:HInv sps val Dn H xs) (s:Same H H'):HInv sps val Dn H' xs:=h.to (fun l us e=>s _ _ e) (au s)
theorem HInv.dict {sps:List bJ} {val:bJ->List bJ} {Dn:bJ->Prop} {H:Hp} {xs:List (SpK × Addr × V)} {d:Addr} {φ:Heap->Prop} {o:HO} (h:HInv sps val Dn H xs) (hd:H d=some (.ext φ)):HInv sps val Dn (upd H d o) xs:=
 h.to (fun l us e=>by rw[av (fun z=>by rw[z,hd] at e;cases e)];exact e) (fun b ys e=>by rw[av (fun z=>by rw[z,hd] at e;cases e)];exact e)
theorem HInv.dn {sps:List bJ} {val:bJ->List bJ} {Dn Dn':bJ->Prop} {H:Hp} {xs:List (SpK × Addr × V)} (h:HInv sps val Dn H xs) (e:∀ sp,Dn' sp ↔ Dn sp):HInv sps val Dn' H xs:=by
 have:Dn'=Dn:=funext fun sp=>propext (e sp)
 rw[this]
 exact h
theorem HInv.snoc {sps:List bJ} {val:bJ->List bJ} {H:Hp} {xs:List (SpK × Addr × V)} {sp:bJ} {a l:Addr} (h:HInv sps val (fun _=>False) H xs) (hn:sp ∉ sps) (hl:H l=some (.lst [])):HInv (sps++[sp]) val (fun _=>False) H (jd xs (spk sp) a (.ref l)):=by
 have hno:mB xs (spk sp)=none:=mK fun x hx e=>hn (by
  have:x.1 ∈ sps.map spk:=by rw[<- h.keys];exact List.mem_map.mpr ⟨x,hx,rfl⟩
  obtain⟨sp',h1,h2⟩:=List.mem_map.mp this
  rw[<- iZ (h2.trans e)]
  exact h1)
 unfold jd
 rw[hno]
 show HInv _ _ _ _ (xs++[(spk sp,a,.ref l)])
 refine⟨by rw[List.map_append,List.map_append,h.keys];rfl,fun sp' x hx e=>?_⟩
 rcases List.mem_append.mp hx with g | g
 ·exact h.vs sp' x g e
 ·rw[List.mem_singleton.mp g]
  exact⟨l,[],rfl,hl,fun z=>z.elim,fun _=>rfl⟩
theorem HInv.has {sps:List bJ} {val:bJ->List bJ} {Dn:bJ->Prop} {H:Hp} {xs:List (SpK × Addr × V)} {sp:bJ} (h:HInv sps val Dn H xs) (hm:sp ∈ sps):∃ x ∈ xs,x.1=spk sp:=by
 have:spk sp ∈ xs.map Prod.fst:=by rw[h.keys];exact List.mem_map.mpr ⟨sp,hm,rfl⟩
 obtain⟨x,hx,e⟩:=List.mem_map.mp this
 exact⟨x,hx,e⟩
theorem HInv.put {sps:List bJ} {val:bJ->List bJ} {Dn:bJ->Prop} {H:Hp} {xs:List (SpK × Addr × V)} {sp:bJ} {a l:Addr} {us:List V} (h:HInv sps val Dn H xs) (hm:sp ∈ sps) (hl:H l=some (.lst us)) (hv:L2R (SpIs H) (val sp) us):HInv sps val (fun s=>Dn s\/s=sp) H (jd xs (spk sp) a (.ref l)):=by
 unfold jd
 rw[if_pos (mJ (h.has hm))]
 refine⟨?_,fun sp' x hx e=>?_⟩
 ·rw[<- h.keys,List.map_map]
  refine List.map_congr_left fun x _=>?_
  show Prod.fst (if x.1=spk sp then (x.1,x.2.1,V.ref l) else x)=x.1
  split <;> rfl
 ·obtain⟨y,hy,rfl⟩:=List.mem_map.mp hx
  by_cases hk:y.1=spk sp
  ·rw[if_pos hk] at e ⊢
   have:sp'=sp:=iZ (e.symm.trans hk)
   subst this
   exact⟨l,us,rfl,hl,fun _=>hv,fun z=>absurd (.inr rfl) z⟩
  ·rw[if_neg hk] at e ⊢
   obtain⟨l',us',h1,h2,h3,h4⟩:=h.vs sp' y hy e
   have ne:sp' ≠ sp:=fun z=>hk (by rw[e,z])
   exact⟨l',us',h1,h2,fun d=>h3 (d.resolve_right ne),fun d=>h4 fun z=>d (.inl z)⟩
theorem HInv.len {sps:List bJ} {val:bJ->List bJ} {Dn:bJ->Prop} {H:Hp} {xs:List (SpK × Addr × V)} (h:HInv sps val Dn H xs):xs.length=sps.length:=by
 have:=congrArg List.length h.keys
 rwa [List.length_map,List.length_map] at this
def zc (_:bJ):Prop:=True
def vR (P:Program) (w:World):Sp:=fun vs H Q _=>∃ (g:Gr) (t:Tr) (vg vt:V),vs=[vg,vt]/\GrIs H g vg/\GT g t/\TrIs H t vt/\∀ d xs H',Same H H'->H d=none->DS P w H' d xs->HInv (aE g t) (bf g t) zc H' xs->Q (.ref d) H'
end K41
namespace K41
open PySem L2 TR FT SP
open TM
section
variable {P:Program} {w:World} {K:W.Frag} {mg:Str->Option Value} {base:Heap} {T:Adr}
theorem uq (X:Tx K mg T):FnOk P w K mg base CX0 20 T.qBC T.d_qBC ["_law_grammar_here", "_law_tree"] (vR P w):=by
 have G_qAQ:=(jQ (P:=P) (w:=w) (base:=base) X).mono (show 1 <= 19 by decide)
 have G_qAL:=(ix (P:=P) (w:=w) (base:=base) X 12).mono (show 13 <= 19 by decide)
 have G_qBH:=(qI (P:=P) (w:=w) (base:=base) X).mono (show 1 <= 19 by decide)
 refine X.F_qBC.okQ sc_qBC (fun vs H Q E h=>?_) (fun cdv A outer s H vs Q E hr h=>?_)
 ·obtain⟨_,_,_,_,rfl,_⟩:=h
  rfl
 obtain⟨g,t,vg,vt,rfl,hg,gt,ht,q⟩:=h
 refine⟨_,(ag (am (i:=2) sc_qBC.nd rfl (Or.inl rfl) qi) (ag (am (i:=3) sc_qBC.nd rfl (Or.inl rfl) (aq G_qAQ hr rfl X.m_qAQ X.F_qAQ.kp X.b_qAQ .nil aW (qaN (qv 1) ae))) (ag (bq PassesOwn.never rfl (bB (qv 3)) (dF rfl (aQ (az (i:=4) sc_qBC.nd rfl (Or.inr rfl)) (aQ (az (i:=5) sc_qBC.nd rfl (Or.inr rfl)) bY))) (ag (am (i:=6) sc_qBC.nd rfl (Or.inr rfl) (ao aS (bH (ys:=["_law_node"]) (js:=[5]) rfl rfl (cw (ao ar (qv 0) af (fun _ _=>rfl))) (fun _ _ _ _ _=>db (aK bL (ao (bF (K:=K) rfl) (qv 0) af (fun _ _=>rfl)) (ao (bF (K:=K) rfl) (qv 1) af (fun _ _=>rfl)) (aP _))) (fun _ _ _ _ _=>(ao (bF (K:=K) rfl) (qv 0) af (fun _ _=>rfl)))) af (fun _ _=>rfl))) (ag (am (i:=7) sc_qBC.nd rfl (Or.inl rfl) (ao aS (bH (ys:=["_law_head"]) (js:=[6]) rfl rfl (cw (ao ar (qv 0) af (fun _ _=>rfl))) (fun _ _ _ _ _=>db (aK bL (ao (bF (K:=K) rfl) (qv 0) af (fun _ _=>rfl)) (qv 1) (aP _))) (fun _ _ _ _ _=>(qv 0))) af (fun _ _=>rfl))) (ai (bq PassesOwn.never rfl (cw (aj cy (ao ar (qv 7) af (fun _ _=>rfl)) (ao ar (qv 7) af (fun _ _=>rfl)))) (az (i:=8) sc_qBC.nd rfl (Or.inl rfl)) (ai (jM hr.un80 (qv 2) (ak (qaN (qv 4) (qaS (ao ar (qv 8) af (fun _ _=>rfl)) ae))) (aV ae)))))))) (ag (bq PassesOwn.never rfl (bB (qv 3)) (dF rfl (aQ (az (i:=4) sc_qBC.nd rfl (Or.inr rfl)) (aQ (az (i:=5) sc_qBC.nd rfl (Or.inr rfl)) bY))) (ag (am (i:=9) sc_qBC.nd rfl (Or.inl rfl) (ao aS (bH (ys:=["_law_node"]) (js:=[5]) rfl rfl (cw (ao ar (qv 0) af (fun _ _=>rfl))) (fun _ _ _ _ _=>db (aK bL (ao (bF (K:=K) rfl) (qv 0) af (fun _ _=>rfl)) (ao (bF (K:=K) rfl) (qv 1) af (fun _ _=>rfl)) (aP _))) (fun _ _ _ _ _=>(ao (bF (K:=K) rfl) (qv 0) af (fun _ _=>rfl)))) af (fun _ _=>rfl))) (ai (bq PassesOwn.never rfl (cw (qv 9)) (dF rfl (aQ (az (i:=10) sc_qBC.nd rfl (Or.inl rfl)) (aQ (az (i:=11) sc_qBC.nd rfl (Or.inl rfl)) (aQ (az (i:=12) sc_qBC.nd rfl (Or.inl rfl)) bY)))) (ai (jM hr.un80 (qv 2) (aq G_qBH hr rfl X.m_qBH X.F_qBH.kp X.b_qBH .nil aW (qaN (qv 4) (qaN (qv 10) (qaN (qv 11) ae)))) (jN (ts:=["_law_a", "_law_b"]) (ys:=["_law_path"]) (js:=[4]) rfl rfl (bB (aq G_qAL hr rfl X.m_qAL X.F_qAL.kp X.b_qAL .nil aW (qaN (qv 12) ae))) (fun _ _ _ _ _=>nM (K:=K) (n:=2) rfl rfl (aQ (az (i:=0) (show (["_law_a", "_law_b", "_law_path"]:List Str).Nodup by decide) rfl (Or.inl rfl)) (aQ (az (i:=1) (show (["_law_a", "_law_b", "_law_path"]:List Str).Nodup by decide) rfl (Or.inl rfl)) bY))) (fun _ _ _ _ _=>bE) (fun _ _ _ _ _=>(aq G_qBH hr rfl X.m_qBH X.F_qBH.kp X.b_qBH .nil aW (qaN (qv 2) (qaN (qv 0) (qaN (qv 1) ae)))))))))))) (ai (ay (qv 2))))))),?_⟩
 dsimp only[cm]
 have sz:=gt.sz
 obtain⟨s0,hs⟩:=gt.ft
 have G:=gt.G
 have hnd:=fP G hs
 have lsp:=dJ G hs
 intro d nd
 have s1:=ac nd (dsO P w d [])
 have hd1:DS P w (upd H d (dsO P w d [])) d []:=⟨aa,fun x hx=>nomatch hx⟩
 refine⟨_,rfl,t,vt,rfl,TrIs.same (au s1) t ht,by omega,fun L us H2 s2 hL hus=>?_⟩
 have hd2:=hd1.same s2
 have s12:=s1.trans s2
 have nLd:L ≠ d:=eJ hL hd2.1 (fun z=>nomatch z)
 have lus:=hus.len
 rw[cU] at lus
 have hg2:=GrIs.same (au s12) hg
 have lfm:g.fm.length <= 10:=G.lf
 have lsgn:g.sg.length <= 10:=G.ls
 have len4:∀ i,(bG g ((nds [] t).take i)).length <= 4 * size t:=fun i=>by
  have:=dk G (xs:=(nds [] t).take i) fun x hx=>(bX G hs (nds_iff.mp (show (x.1,x.2) ∈ nds [] t from List.mem_of_mem_take hx))).1
  have l2:=cU t (p:=[])
  rw[List.length_take] at this
  omega
 have TK:∀ {H':Hp},Kp [d] H2 H'->SameT H2 H':=fun {H'} kp b xs e=>kp b _ (by simpa using eJ e hd2.1 (fun z=>nomatch z)) e
 refine⟨_,rfl,L,rfl,⟨_,SqL.of hL⟩,cq (K:=K) (a:=L) (xs:=us) (fun i σ H'=>∃ x4 x5 x6 x7 x8 xs,σ=[some vg,some vt,some (.ref d),some (.ref L),x4,x5,x6,x7,x8,none,none,none,none]/\Kp [d] H2 H'/\DS P w H' d xs/\HInv (bG g ((nds [] t).take i)) (bf g t) (fun _=>False) H' xs)
  ⟨none,none,none,none,none,[],rfl,Kp.refl _ _,hd2,rfl,(fun sp x hx=>nomatch hx)⟩ (fun i σ H' _ ⟨_,_,_,_,_,_,_,kp,_⟩=>SqL.of (kp _ _ (by simpa using nLd) hL)) ?_ ?_⟩
 ·rintro i v σ H' hv ⟨x4,x5,x6,x7,x8,xs,rfl,kp,hds,hiv⟩
  obtain⟨⟨p,u⟩,hnu,a,b,yu,rfl,ha,hb,hu⟩:=hus.get hv
  have hat:=nds_iff.mp (List.mem_of_getElem? hnu)
  have hb:H2 b=some (.tup (p.map V.int)):=hb
  have hu:TrIs H2 u yu:=hu
  have T1:=TK kp
  obtain⟨fm,fn,_⟩:=cf G hs hat
  obtain⟨sm,sn⟩:=bX G hs hat
  obtain⟨gp,sa,fa,sus,fus,rfl,hgp,hsa,hsg,hfa,hfr⟩:=GrIs.same T1 hg2
  obtain⟨pu,bu,vsu,rfl,hpu,_,_⟩:=(TrIs.same T1 u hu).op
  have lf:=hfr.len
  have lg:=hsg.len
  refine⟨a,_,rfl,SqT.of (T1 _ _ ha),rfl,_,_,rfl,_,_,rfl,rfl,?_⟩
  refine⟨_,rfl,gp,_,1,_,rfl,rfl,SqT.of hgp,rfl,fa,rfl,⟨_,SqT.of hfa⟩,fun D nD=>?_⟩
  refine gZ (K:=K) (B:=FmIs) (a:=fa) (us:=fus) (G:=g.fm) (R:=fun _ f v=>v=.str f.hd) (fun _ _ _ _ e h=>FmIs.same e h) (fun _ _ _ _ _ h=>h) (fun f=>decide (f.nm=(fmT g u.nm).nm)) (bM (by omega)) hfa hfr nD (fun f' v' H3 fm' hf' s3 Q' k=>?_) (fun f' v' H3 fm' hf' s3 Q' k=>?_) (fun os H3 s3 hD hos=>?_)
  ·obtain⟨p',b',rr,us',rfl,hp',_⟩:=hf'
   refine⟨_,rfl,p',_,0,_,rfl,rfl,SqT.of hp',rfl,_,rfl,pu,_,0,_,rfl,rfl,SqT.of (s3 _ _ hpu),rfl,rfl,_,rfl,?_⟩
   have e:decide (V.str f'.nm=V.str u.nm)=decide (f'.nm=(fmT g u.nm).nm):=decide_eq_decide.mpr ⟨fun z=>by rw[fn];exact V.str.inj z,fun z=>by rw[z,fn]⟩
   rw[e]
   exact k _ (Same.refl _)
  ·obtain⟨p',b',rr,us',rfl,hp',_⟩:=hf'
   exact⟨_,rfl,p',_,1,_,rfl,rfl,SqT.of hp',rfl,k _ _ (Same.refl _) rfl⟩
  rw[ef Fm.nm G.fn fm] at hos
  obtain⟨y,r,rfl,hy,hnil⟩:=hos.inv_cons
  have:=hnil.nil_of
  subst this hy
  refine⟨D,_,0,_,rfl,rfl,SqL.of hD,rfl,?_⟩
  refine⟨_,rfl,gp,_,0,_,rfl,rfl,SqT.of (s3 _ _ hgp),rfl,sa,rfl,⟨_,SqT.of (s3 _ _ hsa)⟩,fun D2 nD2=>?_⟩
  refine gZ (K:=K) (B:=SgIs) (a:=sa) (us:=sus) (G:=g.sg) (R:=SgIs) (fun _ _ _ _ e h=>SgIs.same e h) (fun _ _ _ _ e h=>SgIs.same e h) (fun f=>decide (f.nm=(sgn g u).nm)) (bM (by omega)) (s3 _ _ hsa) (hsg.imp fun _ _ h=>SgIs.same (au s3) h) nD2 (fun f' v' H4 fm' hf' s4 Q' k=>?_) (fun f' v' H4 fm' hf' s4 Q' k=>⟨_,rfl,k _ _ (Same.refl _) hf'⟩) (fun os H4 s4 hD2 hos=>?_)
  ·obtain⟨p',da',ua',dus',uus',rfl,hp',_⟩:=hf'
   refine⟨_,rfl,p',_,0,_,rfl,rfl,SqT.of hp',rfl,_,rfl,rfl,_,rfl,?_⟩
   have e:decide (V.str f'.nm=V.str (fmT g u.nm).hd)=decide (f'.nm=(sgn g u).nm):=decide_eq_decide.mpr ⟨fun z=>by rw[sn];exact V.str.inj z,fun z=>by rw[z,sn]⟩
   rw[e]
   exact k _ (Same.refl _)
  rw[ef Sg.nm G.sn sm] at hos
  obtain⟨y,r,rfl,hy,hnil⟩:=hos.inv_cons
  have:=hnil.nil_of
  subst this
  obtain⟨ps,da,ua,dus,uus,rfl,hps,hda,hdn,hua,hup⟩:=hy
  refine⟨D2,_,0,_,rfl,rfl,SqL.of hD2,rfl,?_⟩
  have vl:=G.vl _ sm
  have ld:=hdn.len
  have lu:=hup.len
  have s34:=s3.trans s4
  refine⟨_,rfl,ps,_,1,_,rfl,rfl,SqT.of hps,rfl,_,rfl,ps,_,2,_,rfl,rfl,SqT.of hps,rfl,da,ua,dus,uus,rfl,rfl,hda,hua,bP (by omega),fun tt H5 s5 htt=>?_⟩
  have s35:=s34.trans s5
  have prs:L2R (PrIs H5) ((sgn g u).dn++(sgn g u).up) (dus++uus):=(hdn.imp fun _ _ h=>PrIs.same (au s5) h).app (hup.imp fun _ _ h=>PrIs.same (au s5) h)
  have lprs:=prs.len
  have hb5:=s35 _ _ (T1 _ _ hb)
  have hds5:=hds.same s35
  have hiv5:=hiv.same s35
  have kp5:=kp.same s35
  have TL:∀ {H':Hp},Kp [d] H5 H'->SameT H5 H':=fun {H'} kp b xs e=>kp b _ (by simpa using eJ e hds5.1 (fun z=>nomatch z)) e
  refine⟨tt,rfl,⟨_,SqT.of htt⟩,di (K:=K) (a:=tt) (xs:=dus++uus) (fun j σ H'=>∃ x8 xs,σ=[some (.ref gp),some vt,some (.ref d),some (.ref L),some (.ref b),some (.ref pu),some (.str (fmT g u.nm).hd),some (.ref ps),x8,none,none,none,none]/\Kp [d] H5 H'/\DS P w H' d xs/\HInv (bG g ((nds [] t).take i)++((cY (sgn g u)).take j).map fun n=>(p,n)) (bf g t) (fun _=>False) H' xs)
   ⟨_,xs,rfl,Kp.refl _ _,hds5,by simpa using hiv5⟩ (fun j σ H' _ ⟨_,_,_,kp',_⟩=>SqT.of (TL kp' _ _ htt)) ?_ ?_⟩
  ·rintro j v' σ H' hv' ⟨x8',xs',rfl,kp',hds',hiv'⟩
   obtain⟨⟨nm,kd⟩,hnk,q',rfl,hq'⟩:=prs.get hv'
   have hq':H5 q'=some (.tup [.str nm,.str kd]):=hq'
   have T5:=TL kp'
   have hvn:(cY (sgn g u))[j]?=some nm:=by
    unfold cY
    rw[List.getElem?_map,hnk]
    rfl
   refine⟨(by show 0 <= sizeLine;decide),fun l nl=>?_⟩
   have u1:=ac nl (.lst [])
   refine⟨_,rfl,_,rfl,_,rfl,q',_,0,.str nm,rfl,rfl,SqT.of (u1 _ _ (T5 _ _ hq')),rfl,(by show 2 <= sizeLine;decide),fun kt nkt=>?_⟩
   have u2:=ac nkt (.tup [.ref b,.str nm])
   have u12:=u1.trans u2
   have hds2:=hds'.same u12
   have hiv2:=hiv'.same u12
   have hl2:=u2 _ _ (aa (H:=H') (a:=l) (o:=.lst []))
   have hks:keyS (upd (upd H' l (.lst [])) kt (.tup [.ref b,.str nm])) (spk (p,nm)) kt:=jp (sp:=(p,nm)) ⟨kt,b,rfl,aa,u12 _ _ (T5 _ _ hb5)⟩
   have hnew:(p,nm) ∉ bG g ((nds [] t).take i)++((cY (sgn g u)).take j).map (fun n=>(p,n)):=fun hm=>by
    have hpre:(bG g ((nds [] t).take i)++((cY (sgn g u)).take j).map (fun n=>(p,n))++[(p,nm)]).Nodup:=by
     have e1:bG g ((nds [] t).take (i+1))=bG g ((nds [] t).take i)++(cY (sgn g u)).map fun n=>(p,n):=by rw[aJ hnu,eu,er]
     have e2:(bG g ((nds [] t).take (i+1))).Nodup:=eQ ((rW t).sublist ((List.take_sublist _ _).map _)) fun x hx=>G.vn _ (bX G hs (nds_iff.mp (show (x.1,x.2) ∈ nds [] t from List.mem_of_mem_take hx))).1
     rw[e1] at e2
     refine e2.sublist ?_
     rw[List.append_assoc]
     refine List.Sublist.append_left ?_ _
     rw[<- List.map_singleton,<- List.map_append,<- aJ hvn]
     exact (List.take_sublist _ _).map _
    exact (List.nodup_append.mp hpre).2.2 _ hm _ (by simp) rfl
   have lxs:=hiv'.len
   have l4:=len4 i
   have lv:=gm G sm
   refine⟨d,kt,xs',spk (p,nm),rfl,rfl,hds2,hks,bM (by rw[lxs,List.length_append,List.length_map,List.length_take];omega),?_⟩
   refine⟨_,_,rfl,(kp'.same u12).upd (by simp),hds2.put hks,?_⟩
   rw[aJ hvn,List.map_append,<- List.append_assoc]
   exact (hiv2.snoc hnew hl2).dict hds2.1
  ·rintro σ H' ⟨x8',xs',rfl,kp',hds',hiv'⟩
   refine⟨_,_,_,_,_,xs',rfl,kp5.trans kp',hds',?_⟩
   rw[aJ hnu,eu,er]
   have e:(cY (sgn g u)).take (dus++uus).length=cY (sgn g u):=List.take_of_length_le (by
    unfold cY
    rw[List.length_map]
    omega)
   rw[e] at hiv'
   exact hiv'
 rintro σ H3 ⟨x4,x5,x6,x7,x8,xs3,rfl,kp3,hds3,hiv3⟩
 rw[lus,<- cU t (p:=[]),List.take_length] at hiv3
 have hiv3:HInv (aE g t) (bf g t) (fun _=>False) H3 xs3:=hiv3
 have T23:=TK kp3
 have hL3:=kp3 _ _ (by simpa using nLd) hL
 have hus3:=hus.imp fun _ _ h=>NdIs.same T23 h
 have hg3:=GrIs.same T23 hg2
 have TK3:∀ {H':Hp},Kp [d] H3 H'->SameT H3 H':=fun {H'} kp b xs e=>kp b _ (by simpa using eJ e hds3.1 (fun z=>nomatch z)) e
 refine⟨_,rfl,L,rfl,⟨_,SqL.of hL3⟩,cq (K:=K) (a:=L) (xs:=us) (fun i σ H'=>∃ x4 x5 x6 x7 x8 x9 x10 x11 x12 xs,σ=[some vg,some vt,some (.ref d),some (.ref L),x4,x5,x6,x7,x8,x9,x10,x11,x12]/\Kp [d] H3 H'/\DS P w H' d xs/\HInv (aE g t) (bf g t) (fun sp=>∃ x ∈ (nds [] t).take i,∃ r ∈ (fmT g x.2.nm).ru,bT x.1 (keyR r)=sp) H' xs)
  ⟨_,_,_,_,_,_,_,_,_,xs3,rfl,Kp.refl _ _,hds3,hiv3.dn fun sp=>⟨fun⟨x,hx,_⟩=>by simp at hx,fun z=>z.elim⟩⟩ (fun i σ H' _ ⟨_,_,_,_,_,_,_,_,_,_,_,kp,_⟩=>SqL.of (kp _ _ (by simpa using nLd) hL3)) ?_ ?_⟩
 ·rintro i v σ H' hv ⟨x4,x5,x6,x7,x8,x9,x10,x11,x12,xs,rfl,kp,hds,hiv⟩
  obtain⟨⟨p,u⟩,hnu,a,b,yu,rfl,ha,hb,hu⟩:=hus3.get hv
  have hat:=nds_iff.mp (List.mem_of_getElem? hnu)
  have hb:H3 b=some (.tup (p.map V.int)):=hb
  have hu:TrIs H3 u yu:=hu
  have T1:=TK3 kp
  obtain⟨fm,fn,_⟩:=cf G hs hat
  obtain⟨gp,sa,fa,sus,fus,rfl,hgp,hsa,hsg,hfa,hfr⟩:=GrIs.same T1 hg3
  obtain⟨pu,bu,vsu,rfl,hpu,_,_⟩:=(TrIs.same T1 u hu).op
  have lf:=hfr.len
  have lp:p.length <= 60:=by
   have:=dy hat
   have:=bV t
   omega
  refine⟨a,_,rfl,SqT.of (T1 _ _ ha),rfl,_,_,rfl,_,_,rfl,rfl,?_⟩
  refine⟨_,rfl,gp,_,1,_,rfl,rfl,SqT.of hgp,rfl,fa,rfl,⟨_,SqT.of hfa⟩,fun D nD=>?_⟩
  refine gZ (K:=K) (B:=FmIs) (a:=fa) (us:=fus) (G:=g.fm) (R:=fun H f v=>∃ b us,v=.ref b/\H b=some (.tup us)/\L2R (RuIs H) f.ru us) (fun _ _ _ _ e h=>FmIs.same e h) (fun _ _ _ _ e ⟨b,us,h1,h2,h3⟩=>⟨b,us,h1,e _ _ h2,h3.imp fun _ _ z=>RuIs.same e z⟩) (fun f=>decide (f.nm=(fmT g u.nm).nm)) (bM (by omega)) hfa hfr nD (fun f' v' H4 fm' hf' s4 Q' k=>?_) (fun f' v' H4 fm' hf' s4 Q' k=>?_) (fun os H4 s4 hD hos=>?_)
  ·obtain⟨p',b',rr,us',rfl,hp',_⟩:=hf'
   refine⟨_,rfl,p',_,0,_,rfl,rfl,SqT.of hp',rfl,_,rfl,pu,_,0,_,rfl,rfl,SqT.of (s4 _ _ hpu),rfl,rfl,_,rfl,?_⟩
   have e:decide (V.str f'.nm=V.str u.nm)=decide (f'.nm=(fmT g u.nm).nm):=decide_eq_decide.mpr ⟨fun z=>by rw[fn];exact V.str.inj z,fun z=>by rw[z,fn]⟩
   rw[e]
   exact k _ (Same.refl _)
  ·obtain⟨p',b',rr,us',rfl,hp',_,hrr,hru⟩:=hf'
   exact⟨_,rfl,p',_,3,_,rfl,rfl,SqT.of hp',rfl,k _ _ (Same.refl _) ⟨rr,us',rfl,hrr,hru⟩⟩
  rw[ef Fm.nm G.fn fm] at hos
  obtain⟨y,r,rfl,hy,hnil⟩:=hos.inv_cons
  have:=hnil.nil_of
  subst this
  obtain⟨rb,rus,rfl,hrb,hru⟩:=hy
  refine⟨D,_,0,_,rfl,rfl,SqL.of hD,rfl,?_⟩
  have hds4:=hds.same s4
  have hiv4:=hiv.same s4
  have hb4:=s4 _ _ (T1 _ _ hb)
  have TL:∀ {H':Hp},Kp [d] H4 H'->SameT H4 H':=fun {H'} kp b xs e=>kp b _ (by simpa using eJ e hds4.1 (fun z=>nomatch z)) e
  have lru:=hru.len
  refine⟨_,rfl,rb,rfl,⟨_,SqT.of hrb⟩,di (K:=K) (a:=rb) (xs:=rus) (fun j σ H'=>∃ x10 x11 x12 xs,σ=[some (.ref gp),some vt,some (.ref d),some (.ref L),some (.ref b),some (.ref pu),x6,x7,x8,some (.ref rb),x10,x11,x12]/\Kp [d] H4 H'/\DS P w H' d xs/\HInv (aE g t) (bf g t) (fun sp=>(∃ x ∈ (nds [] t).take i,∃ r ∈ (fmT g x.2.nm).ru,bT x.1 (keyR r)=sp)\/∃ r ∈ (fmT g u.nm).ru.take j,bT p (keyR r)=sp) H' xs)
   ⟨_,_,_,xs,rfl,Kp.refl _ _,hds4,hiv4.dn fun sp=>⟨fun z=>z.elim id fun⟨r,hr,_⟩=>by simp at hr,.inl⟩⟩ (fun j σ H' _ ⟨_,_,_,_,_,kp',_⟩=>SqT.of (TL kp' _ _ hrb)) ?_ ?_⟩
  ·rintro j v' σ H' hv' ⟨x10',x11',x12',xs',rfl,kp',hds',hiv'⟩
   have T5:=TL kp'
   obtain⟨ru,hrj,q',tv,rfl,hq',htm⟩:=hru.get hv'
   have rmem:=List.mem_of_getElem? hrj
   have tw:=gt.W.tw _ fm ru rmem
   obtain⟨hin,hne⟩:=pd G hs hat rmem
   refine⟨q',_,rfl,SqT.of (T5 _ _ hq'),rfl,_,_,rfl,_,_,rfl,_,_,rfl,rfl,?_⟩
   refine⟨_,rfl,ru.tm,tv,rfl,TmIs.same T5 _ htm,tw.1,tw.2,fun l ys H5 nl s5 hl hys=>⟨l,rfl,⟨_,SqL.of hl⟩,fun D5 nD5=>?_⟩⟩
   have lys:=hys.len
   have nl2:=cM ru.tm
   have hys':=gP hys
   have hb5:=s5 _ _ (T5 _ _ hb4)
   refine mq (K:=K) (R:=fun H (z:Pr) v=>SpIs H (bT p z) v) (as:=named ru.tm) (OffD.ofT fun _ _ _ _ e h=>SpIs.same e h) (bM (by omega)) lys (SqL.of hl) nD5 (fun k z pr H6 hz hpr s6 Q' kk=>?_) (fun zs H6 s6 hD6 hzs=>?_)
   ·obtain⟨pr',hpr',c',rfl,hc'⟩:=hys'.get hz
    rw[hpr] at hpr'
    cases hpr'
    refine⟨c',_,rfl,SqT.of (s6 _ _ hc'),rfl,_,_,rfl,_,_,rfl,rfl,[some (.int pr.1),some (.str pr.2)],rfl,rfl,?_⟩
    exact⟨_,rfl,_,rfl,_,rfl,b,p,pr.1,pr.2,rfl,s6 _ _ hb5,by omega,fun y H7 s7 h7=>kk _ _ s7 h7⟩
   ·have s56:=s5.trans s6
    refine⟨_,rfl,_,rfl,_,rfl,_,rfl,b,p,ru.k,ru.nm,rfl,s6 _ _ hb5,by omega,fun y H7 s7 h7=>?_⟩
    obtain⟨kt,kb,rfl,hkt,hkb⟩:=h7
    have hks:keyS H7 (spk (bT p (keyR ru))) kt:=jp (sp:=bT p (keyR ru)) ⟨kt,kb,rfl,hkt,hkb⟩
    have s57:=s56.trans s7
    have hds7:=hds'.same s57
    have hiv7:=hiv'.same s57
    have lxs:=hiv'.len
    have hzs7:L2R (SpIs H7) (bf g t (bT p (keyR ru))) zs:=by
     rw[hne]
     exact L2R.mapM (R:=SpIs H7) (bT p) (hzs.imp fun _ _ h=>SpIs.same (au s7) h)
    refine⟨d,kt,xs',spk (bT p (keyR ru)),rfl,rfl,hds7,hks,bM (by omega),?_⟩
    refine⟨_,_,_,_,rfl,(kp'.same s57).upd (by simp),hds7.put hks,?_⟩
    refine ((hiv7.put hin (s7 _ _ hD6) hzs7).dict hds7.1).dn fun sp=>?_
    rw[aJ hrj]
    constructor
    ·rintro (h | ⟨r,hr,e⟩)
     ·exact .inl (.inl h)
     ·rcases List.mem_append.mp hr with z | z
      ·exact .inl (.inr ⟨r,z,e⟩)
      ·rw[List.mem_singleton.mp z] at e
       exact .inr e.symm
    ·rintro ((h | ⟨r,hr,e⟩) | e)
     ·exact .inl h
     ·exact .inr ⟨r,List.mem_append_left _ hr,e⟩
     ·exact .inr ⟨ru,by simp,e.symm⟩
  ·rintro σ H' ⟨x10',x11',x12',xs',rfl,kp',hds',hiv'⟩
   refine⟨_,_,_,_,_,_,_,_,_,xs',rfl,(kp.same s4).trans kp',hds',hiv'.dn fun sp=>?_⟩
   rw[aJ hnu,List.take_of_length_le (show (fmT g u.nm).ru.length <= rus.length by omega)]
   constructor
   ·rintro⟨x,hx,r,hr,e⟩
    rcases List.mem_append.mp hx with z | z
    ·exact .inl ⟨x,z,r,hr,e⟩
    ·rw[List.mem_singleton.mp z] at hr e
     exact .inr ⟨r,hr,e⟩
   ·rintro (⟨x,hx,r,hr,e⟩ | ⟨r,hr,e⟩)
    ·exact⟨x,List.mem_append_left _ hx,r,hr,e⟩
    ·exact⟨(p,u),by simp,r,hr,e⟩
 ·rintro σ H4 ⟨x4,x5,x6,x7,x8,x9,x10,x11,x12,xs,rfl,kp,hds,hiv⟩
  rw[lus,<- cU t (p:=[]),List.take_length] at hiv
  refine⟨_,rfl,q d xs H4 (fun b o hb=>kp _ _ (by simpa using aG hb nd) (kp3 _ _ (by simpa using aG hb nd) (s12 _ _ hb))) nd hds ⟨hiv.keys,fun sp x hx e=>?_⟩⟩
  obtain⟨l,us',h1,h2,h3,h4⟩:=hiv.vs sp x hx e
  refine⟨l,us',h1,h2,fun _=>?_,fun z=>absurd trivial z⟩
  by_cases hdn:∃ x ∈ nds [] t,∃ r ∈ (fmT g x.2.nm).ru,bT x.1 (keyR r)=sp
  ·exact h3 hdn
  ·have hsp:sp ∈ aE g t:=by
    have:x.1 ∈ (aE g t).map spk:=by rw[<- hiv.keys];exact List.mem_map.mpr ⟨x,hx,rfl⟩
    obtain⟨sp',h5,h6⟩:=List.mem_map.mp this
    rw[<- iZ (h6.trans e)]
    exact h5
   rcases kg G hs hsp with z | ⟨p,u,r,z1,z2,z3⟩
   ·rw[z,h4 hdn]
    exact .nil
   ·exact absurd ⟨(p,u),nds_iff.mpr z1,r,z2,z3⟩ hdn
end
end K41
namespace K41
open PySem L2 TR FT SP
open TM
theorem vj:bootBuiltins "ValueError" = some (.type "ValueError"):=by decide +kernel
theorem fH {X:Cx} {K:W.Frag} (h:X.K=K):CallR X (.builtin "isinstance") (fun xs H Q=>∃ (a C:Addr) (v:V) (b:Bool),xs=[.ref a,v]/\H a=some (uQ a C)/\sI K C /\
  ((∃ D,v=.ref D/\PySem.W.kitOne K (.ref C) (.ref D)=some b)\/(∃ T,v=.ty T/\PySem.W.kitOne K (.ref C) (.type T)=some b)\/(∃ (p:Addr) (ds:List Addr),v=.ref p/\H p=some (.tup (ds.map V.ref))/\PySem.W.kitAny K (.ref C) (ds.map Value.ref)=some b))/\Q (.bl b) H):=h ▸ rE
theorem yb {K:W.Frag} {H:Hp} {b:Bool}:Isds K H [.fl (.bl b)] [.bl b]:=cz (by unfold Isd;exact⟨rfl,rfl⟩) dq
theorem wZ {K:W.Frag} {H:Hp} {a b c:Bool}:Isds K H [.fl (.bl a),.fl (.bl b),.fl (.bl c)] [.bl a,.bl b,.bl c]:=cz (by unfold Isd;exact⟨rfl,rfl⟩) (cz (by unfold Isd;exact⟨rfl,rfl⟩) yb)
theorem yQ {K:W.Frag}:PySem.W.kitOne K (.type "list") (.type "list")=some true:=by with_unfolding_all rfl
theorem oY:∀ xs ys:List Int,eh (xs.map fun n=>Da.fl (.int n)) (ys.map fun n=>Da.fl (.int n))=decide (xs=ys)
 | [],[]=>by unfold eh;simp
 | [],y::ys=>by unfold eh;simp
 | x::xs,[]=>by unfold eh;simp
 | x::xs,y::ys=>by
  rw[List.map_cons,List.map_cons]
  unfold eh
  rw[oY xs ys]
  unfold eqD eqV
  by_cases h:x=y
  ·subst h
   simp
  ·simp[h]
theorem gE {X:Cx} {K:W.Frag} (h:X.K=K):OpR X (compareOp .NotIn) (rIn K true):=h ▸ dc
theorem xl {H:Hp} {p:List Int} {a b:Addr} (h:H a=some (.tup (p.map V.int))) (g:H b=some (.tup (p.map V.int))) (hl:p.length <= 1000):Al H 1 (.ref a) (.ref b):=
 .tup h g rfl (by rw[List.length_map];exact hl) fun i x y hx hy=>by
  rw[hx] at hy
  cases hy
  rw[List.getElem?_map] at hx
  obtain⟨k,_,rfl⟩:=Option.map_eq_some_iff.mp hx
  exact .int k
theorem yf {H:Hp} {sp:bJ} {v u:V} (h:SpIs H sp v) (g:SpIs H sp u) (hl:sp.1.length <= 1000):Al H 2 v u:=by
 obtain⟨a,b,rfl,ha,hb⟩:=h
 obtain⟨a',b',rfl,ha',hb'⟩:=g
 exact xk ha ha' (xl hb hb' hl) (.str _)
theorem iY {g:Gr} {t:Tr} (gt:GT g t) {sp:bJ} (h:sp ∈ aE g t):sp.1.length <= 60/\pK sp.2:=by
 obtain⟨s,hs⟩:=gt.ft
 obtain⟨u,hu,hn⟩:=mem_spots.mp h
 have:=dy hu
 have:=bV t
 have:=gt.sz
 exact⟨by omega,(gt.W.sw _ (bX gt.G hs hu).1).2 _ hn⟩
theorem qP {g:Gr} {t:Tr} (gt:GT g t) {sp:bJ} (h:sp ∈ aE g t):(bf g t sp).length <= 1000/\∀ x ∈ bf g t sp,x.1.length <= 1000:=by
 obtain⟨s,hs⟩:=gt.ft
 rcases kg gt.G hs h with e | ⟨p,u,r,hu,hr,rfl⟩
 ·rw[e]
  exact⟨Nat.zero_le _,fun x hx=>nomatch hx⟩
 ·obtain⟨_,e⟩:=pd gt.G hs hu hr
  rw[e]
  have tw:=gt.W.tw _ (cf gt.G hs hu).1 r hr
  have nl:=cM r.tm
  have:=dy hu
  have:=bV t
  have:=gt.sz
  refine⟨by unfold uD;rw[List.length_map];omega,fun x hx=>?_⟩
  obtain⟨q,_,rfl⟩:=List.mem_map.mp hx
  show (if q.1=0 then p else p++[q.1]).length <= 1000
  split
  ·omega
  ·rw[List.length_append,List.length_singleton]
   omega
def vL:Sp:=fun vs H Q _=>∃ (a b:Addr) (us ws:List V) (sps:List bJ),vs=[.ref a,.ref b]/\H a=some (.lst us)/\H b=some (.lst ws)/\L2R (SpIs H) sps us/\L2R (SpIs H) sps ws/\sps.length <= 1000/\(∀ sp ∈ sps,sp.1.length <= 1000)/\∀ H',Same H H'->Q (.bl true) H'
def vX:Sp:=fun vs H Q _=>∃ (g:Gr) (t:Tr) (vg vt:V) (b:Addr) (ws:List V),vs=[vg,vt,.ref b]/\GrIs H g vg/\GT g t/\TrIs H t vt/\H b=some (.lst ws)/\L2R (SpIs H) (aE g t) ws/\∀ H',Same H H'->Q (.bl true) H'
def tG:Sp:=fun vs H Q _=>∃ (g:Gr) (t:Tr) (vg vt v:V) (b:Addr) (ws:List V) (sp:bJ),vs=[vg,vt,v,.ref b]/\GrIs H g vg/\GT g t/\TrIs H t vt/\SpIs H sp v/\sp ∈ aE g t/\H b=some (.lst ws)/\L2R (SpIs H) (bf g t sp) ws/\∀ H',Same H H'->Q (.bl true) H'
def vQ:Sp:=fun vs H Q _=>∃ (g:Gr) (t:Tr) (vg vt v:V) (sp:bJ),vs=[vg,vt,v]/\GrIs H g vg/\GT g t/\TrIs H t vt/\SpIs H sp v/\iU sp.2/\sp.1.length <= 1000/\sp ∉ aE g t/\∀ H',Same H H'->Q (.bl true) H'
section
variable {P:Program} {w:World} {K:W.Frag} {mg:Str->Option Value} {base:Heap} {T:Adr}
theorem nZ (X:Tx K mg T):FnOk P w K mg base CX0 6 T.qAB T.d_qAB ["_law_found", "_law_due"] vL:=by
 have G_qBF:=uk (P:=P) (w:=w) (base:=base) X 3
 refine X.F_qAB.okQ wg (fun vs H Q E h=>?_) (fun cdv A outer s H vs Q E hr h=>?_)
 ·obtain⟨_,_,_,_,_,rfl,_⟩:=h
  rfl
 obtain⟨a,b,us,ws,sps,rfl,ha,hb,hus,hws,ls,lp,q⟩:=h
 refine⟨_,(ag (bp (lQ (tT (cv (ci (ax aZ rfl X.z_isinstance PyProof.Rows.boot_isinstance (qaN (qv 0) (qaN (bZ rfl X.z_list PyProof.Rows.boot_list rfl (v:=.ty "list")) ae))))) (nG (aK qx (ax call_len_seq rfl X.z_len PySem.boot_len (qaN (qv 0) ae)) (ax call_len_seq rfl X.z_len PySem.boot_len (qaN (qv 1) ae)) (aP _))))) (ai (ay cT)) aL) (ai (ay (aq G_qBF hr rfl X.m_qBF X.F_qBF.kp X.b_qBF .nil aW (qaK (aY aT rfl X.z_tuple PyProof.Rows.boot_tuple (qaN (qv 0) ae)) (qaK (aY aT rfl X.z_tuple PyProof.Rows.boot_tuple (qaN (qv 1) ae)) ae)))))),?_⟩
 dsimp only[cm]
 have lu:=hus.len
 have lw:=hws.len
 refine⟨_,rfl,_, "list",_,_,rfl,.lst ha,yQ,_,rfl,hW ?_⟩
 refine⟨_,rfl,a,us,rfl,.inl (SqL.of ha),_,rfl,b,ws,rfl,.inl (SqL.of hb),rfl,_,rfl,wY (by rw[lu,lw]) ?_⟩
 refine⟨_,rfl,a,us,rfl,.inl ⟨SqL.of ha,fun t1 ht1=>?_⟩⟩
 have s2:=ac ht1 (.tup us)
 refine⟨_,rfl,b,ws,rfl,.inl ⟨SqL.of (s2 _ _ hb),fun t2 ht2=>?_⟩⟩
 have s3:=ac ht2 (.tup ws)
 have s13:=s2.trans s3
 refine⟨_,_,rfl,.tup (s3 _ _ aa) aa (by omega) (by omega) (fun i x y hx hy=>?_),fun H4 s4=>q _ (s13.trans s4)⟩
 obtain⟨sp,h1,h2⟩:=hus.get hx
 obtain⟨sp',h1',h2'⟩:=hws.get hy
 rw[h1] at h1'
 cases h1'
 exact yf (SpIs.same (au s13) h2) (SpIs.same (au s13) h2') (lp sp (List.mem_of_getElem? h1))
theorem uz (X:Tx K mg T):FnOk P w K mg base CX0 71 T.qAF T.d_qAF ["_law_grammar_here", "_law_tree", "_law_due"] vX:=by
 have G_qAX:=qC (P:=P) (w:=w) (base:=base) X
 have G_qAB:=(nZ (P:=P) (w:=w) (base:=base) X).mono (show 6 <= 70 by decide)
 refine X.F_qAF.okQ sc_qAF (fun vs H Q E h=>?_) (fun cdv A outer s H vs Q E hr h=>?_)
 ·obtain⟨_,_,_,_,_,_,rfl,_⟩:=h
  rfl
 obtain⟨g,t,vg,vt,b,ws,rfl,hg,gt,ht,hb,hws,q⟩:=h
 refine⟨_,(ag (am (i:=3) sc_qAF.nd rfl (Or.inl rfl) (aq G_qAX hr rfl X.m_qAX X.F_qAX.kp X.b_qAX .nil aW (qaN (qv 0) (qaN (qv 1) ae)))) (ag (bp (cv (ci (aq G_qAB hr rfl X.m_qAB X.F_qAB.kp X.b_qAB .nil aW (qaN (qv 3) (qaN (qv 2) ae))))) (ai (ay cT)) aL) (ag (bU (eB PySem.F.plainAttrs_list PySem.F.slot_list_append PySem.F.type_list_append bg (qv 3) (qaT (ak (qaT (ak ae) (qaC aw ae))) ae))) (ai (ay cT))))),?_⟩
 dsimp only[cm]
 obtain⟨s0,hs⟩:=gt.ft
 have lsp:=dJ gt.G hs
 have sz:=gt.sz
 refine⟨_,rfl,_,rfl,g,t,vg,vt,rfl,hg,gt,ht,fun D us H1 s1 nD hD hus=>?_⟩
 have lus:=hus.len
 refine⟨_,rfl,_,rfl,D,b,us,ws,aE g t,rfl,hD,s1 _ _ hb,hus,hws.imp fun _ _ h=>SpIs.same (au s1) h,by omega,fun sp h=>by have:=(iY gt h).1;omega,fun H2 s2=>⟨_,rfl,hW ?_⟩⟩
 have hD2:=s2 _ _ hD
 refine⟨_,rfl,.inl ⟨rfl,_,SqL.of hD2⟩,(by show 0 <= sizeLine;decide),fun a1 h1=>⟨(by show 2 <= sizeLine;decide),fun a2 h2=>?_⟩⟩
 have s3:=ac h1 (.tup [])
 have s4:=ac h2 (.tup [.ref a1,.str "a"])
 have s34:=s3.trans s4
 refine⟨D,us,_,rfl,rfl,s34 _ _ hD2,bM (by omega),?_⟩
 exact q _ (aN nD (s1.trans (s2.trans s34)))
theorem qH (X:Tx K mg T):FnOk P w K mg base CX0 21 T.qAA T.d_qAA ["_law_grammar_here", "_law_tree", "_law_spot_here", "_law_due"] tG:=by
 have G_qAW:=jR (P:=P) (w:=w) (base:=base) X
 have G_qAB:=(nZ (P:=P) (w:=w) (base:=base) X).mono (show 6 <= 20 by decide)
 refine X.F_qAA.okQ sc_qAA (fun vs H Q E h=>?_) (fun cdv A outer s H vs Q E hr h=>?_)
 ·obtain⟨_,_,_,_,_,_,_,_,rfl,_⟩:=h
  rfl
 obtain⟨g,t,vg,vt,v,b,ws,sp,rfl,hg,gt,ht,hsp,hin,hb,hws,q⟩:=h
 refine⟨_,(ag (am (i:=4) sc_qAA.nd rfl (Or.inl rfl) (aq G_qAW hr rfl X.m_qAW X.F_qAW.kp X.b_qAW .nil rR (qaN (qv 0) (qaN (qv 1) (qaN (qv 2) ae))))) (ag (bp (cv (ci (aq G_qAB hr rfl X.m_qAB X.F_qAB.kp X.b_qAB .nil aW (qaN (qv 4) (qaN (qv 3) ae))))) (ai (ay cT)) aL) (ag (bU (eB PySem.F.plainAttrs_list PySem.F.slot_list_append PySem.F.type_list_append bg (qv 4) (qaN (qv 2) ae))) (ai (ay cT))))),?_⟩
 dsimp only[cm]
 obtain⟨nl,np⟩:=qP gt hin
 have so:=iY gt hin
 refine⟨_,rfl,_,rfl,_,rfl,g,t,vg,vt,v,sp,rfl,hg,gt,ht,hsp,ma so.2,by have:=so.1;omega,fun _ D us H1 s1 nD hD hus=>?_,fun h=>absurd hin h⟩
 have lus:=hus.len
 refine⟨_,rfl,_,rfl,D,b,us,ws,bf g t sp,rfl,hD,s1 _ _ hb,hus,hws.imp fun _ _ h=>SpIs.same (au s1) h,nl,np,fun H2 s2=>⟨_,rfl,hW ?_⟩⟩
 have hD2:=s2 _ _ hD
 refine⟨_,rfl,.inl ⟨rfl,_,SqL.of hD2⟩,_,rfl,D,us,_,rfl,rfl,hD2,bM (by omega),?_⟩
 exact q _ (aN nD (s1.trans s2))
theorem ul (X:Tx K mg T):FnOk P w K mg base CX0 21 T.qAE T.d_qAE ["_law_grammar_here", "_law_tree", "_law_spot_here"] vQ:=by
 have G_qAW:=jR (P:=P) (w:=w) (base:=base) X
 refine X.F_qAE.okQ sc_qAE (fun vs H Q E h=>?_) (fun cdv A outer s H vs Q E hr h=>?_)
 ·obtain⟨_,_,_,_,_,_,rfl,_⟩:=h
  rfl
 obtain⟨g,t,vg,vt,v,sp,rfl,hg,gt,ht,hsp,tx,lp,hout,k⟩:=h
 refine⟨_,(ag (am (i:=3) sc_qAE.nd rfl (Or.inl rfl) (aV ae)) (ag (wv (i:=4) G_qAW hr rfl X.m_qAW X.F_qAW.kp X.b_qAW (qaN (qv 0) (qaN (qv 1) (qaN (qv 2) ae))) rfl X.m_LeafError X.e_LeafError sc_qAE.nd rfl rfl rfl rfl rfl (fun _=>(ag (am (i:=3) sc_qAE.nd rfl (Or.inl rfl) (aV (qaK (ax (fH (K:=K) rfl) rfl X.z_isinstance PyProof.Rows.boot_isinstance (qaN (qv 4) (qaN (cJ rfl X.m_NoPlace (v:=V.ref T.k_NoPlace) rfl) ae))) (qaK (ax (fH (K:=K) rfl) rfl X.z_isinstance PyProof.Rows.boot_isinstance (qaN (qv 4) (qaN (bZ rfl X.z_ValueError vj rfl (v:=.ty "ValueError")) ae))) ae)))) (ai (bU (wD (K:=K) rfl PySem.F.plainAttrs_list PySem.F.slot_list_append PySem.F.type_list_append bg (qv 3) (qaK (ax (fH (K:=K) rfl) rfl X.z_isinstance PyProof.Rows.boot_isinstance (qaN (qv 4) (qaT (ak (qaN (cJ rfl X.m_NoText (v:=V.ref T.k_NoText) rfl) (qaN (cJ rfl X.m_TooGreat (v:=V.ref T.k_TooGreat) rfl) (qaN (cJ rfl X.m_NoName (v:=V.ref T.k_NoName) rfl) (qaN (cJ rfl X.m_NoRule (v:=V.ref T.k_NoRule) rfl) (qaN (cJ rfl X.m_NoKind (v:=V.ref T.k_NoKind) rfl) (qaN (cJ rfl X.m_NoTree (v:=V.ref T.k_NoTree) rfl) (qaN (cJ rfl X.m_NoGiven (v:=V.ref T.k_NoGiven) rfl) (qaN (cJ rfl X.m_NoWalk (v:=V.ref T.k_NoWalk) rfl) (qaN (cJ rfl X.m_Ring (v:=V.ref T.k_Ring) rfl) ae)))))))))) ae))) ae))))))) (ai (ay (cS (rS hr.units) (qv 3) (aV (qaC cT (qaC cT (qaC cT ae)))) (aP _)))))),?_⟩
 dsimp only[cm]
 refine⟨(by show 0 <= sizeLine;decide),fun o1 ho1=>?_⟩
 have O1:=ac ho1 (.lst [])
 generalize upd H o1 (.lst [])=H1 at O1 ⊢
 refine⟨_,rfl,_,rfl,_,rfl,g,t,vg,vt,v,sp,rfl,GrIs.same (au O1) hg,gt,TrIs.same (au O1) t ht,SpIs.same (au O1) hsp,tx,lp,fun h=>absurd h hout,fun _ H2 s2=>?_⟩
 refine⟨T.k_NoPlace,rfl,X.e_NoPlace,X.u_NoPlace_LeafError,fun ex hex=>?_⟩
 have E1:=ac hex (uQ ex T.k_NoPlace)
 refine⟨_,rfl,ex,T.k_NoPlace,_,_,rfl,aa,X.x_NoPlace,.inl ⟨_,rfl,X.i_NoPlace_0⟩,?_⟩
 refine⟨_,rfl,ex,T.k_NoPlace,_,_,rfl,aa,X.x_NoPlace,.inr (.inl ⟨_,rfl,X.i_NoPlace_1⟩),(by show 2 <= sizeLine;decide),fun p1 hp1=>?_⟩
 have E2:=ac hp1 (.lst [.bl true,.bl true])
 have hp1':=aa (H:=upd H2 ex (uQ ex T.k_NoPlace)) (a:=p1) (o:=.lst [.bl true,.bl true])
 have hex':=E2 _ _ (aa (H:=H2) (a:=ex) (o:=uQ ex T.k_NoPlace))
 have np1:H p1=none:=(O1.trans (s2.trans E1)).free hp1
 refine⟨_,rfl,.inl ⟨rfl,_,SqL.of hp1'⟩,_,rfl,(by show 9 <= sizeLine;decide),fun tp htp=>?_⟩
 have E3:=ac htp (.tup ([T.k_NoText,T.k_TooGreat,T.k_NoName,T.k_NoRule,T.k_NoKind,T.k_NoTree,T.k_NoGiven,T.k_NoWalk,T.k_Ring].map V.ref))
 refine⟨ex,T.k_NoPlace,_,_,rfl,E3 _ _ hex',X.x_NoPlace,.inr (.inr ⟨tp,[T.k_NoText,T.k_TooGreat,T.k_NoName,T.k_NoRule,T.k_NoKind,T.k_NoTree,T.k_NoGiven,T.k_NoWalk,T.k_Ring],rfl,aa,X.i_NoPlace_2⟩),p1,_,_,rfl,rfl,E3 _ _ hp1',(by show 2 < sizeLine;decide),?_⟩
 refine⟨_,rfl,(by show 3 <= sizeLine;decide),fun r1 hr1=>?_⟩
 have E5:=ac hr1 (.lst [.bl true,.bl true,.bl false])
 refine⟨p1,r1,[.bl true,.bl true,.bl false],[.bl true,.bl true,.bl false],[.fl (.bl true),.fl (.bl true),.fl (.bl false)],[.fl (.bl true),.fl (.bl true),.fl (.bl false)],rfl,rfl,.inr ⟨SqL.of (E5 _ _ aa),SqL.of aa⟩,wZ,wZ,by decide,?_⟩
 exact k _ ((aN np1 (O1.trans (s2.trans (E1.trans (E2.trans E3))))).trans E5)
end
end K41
namespace K41
open PySem L2 TR FT SP
open TM
theorem uf {X:Cx} {K:W.Frag} (h:X.K=K) (hu:X.A.units+64 < cLine):OpR X (compareOp .Eq) (tR K id):=h ▸ rS hu
theorem uF {D:hX} {σ:St} {H:Hp} (h:D.nx σ H):tNext D σ H:=h
def spLaw (K:W.Frag):Sp:=fun vs H Q _=>∃ (a:Addr) (ns:List Int),vs=[.ref a]/\SqL K H a (ns.map V.int)/\ns.length <= 63/\∀ H',Q (.bl true) H'
theorem pG {α:Type} {B:Hp->α->V->Prop} {K:W.Frag} {a:Addr} {us:List V} {G:List α} {js:List Nat} {tc:TT} {te:TE} {σ:St} {Q:VK} {D:Addr} {H1:Hp} {R:Hp->α->V->Prop} (sB:∀ H H' f v,SameT H H'->B H f v->B H' f v) (st:∀ H H' f v,SameT H H'->R H f v->R H' f v) (pr:α->Bool) (hz:us.length < sizeLine) (ha:H1 a=some (.lst us)) (hus:L2R (B H1) G us) (hD:H1 D=none)
  (hc:∀ f v H,f ∈ G->B H f v->Same H1 H->∀ Q':Bool->Hp->Prop,(∀ H',Same H H'->Q' (pr f) H')->tc (some v::bh js σ) H Q')
  (he:∀ f v H,f ∈ G->B H f v->Same H1 H->∀ Q':VK,(∀ y H',Same H H'->R H' f y->Q' y H')->te (some v::bh js σ) H Q')
  (hq:∀ ys H',Same H1 H'->H' D=some (.lst ys)->L2R (R H') (G.filter pr) ys->Q (.ref D) H'):fK (Itl K a) js tc te σ Q D H1:=by
 have lus:=hus.len
 refine⟨fun i m acc H=>m=us.length - i/\i <= us.length/\Same H1 H/\H D=some (.lst acc)/\L2R (R H) ((G.take i).filter pr) acc,⟨us.length,by simp,Nat.zero_le _,ac hD _,aa,.nil⟩,?_⟩
 rintro i m acc H ⟨hm,hi,sm,hDi,hr⟩
 have la:=hr.len
 have lf:((G.take i).filter pr).length <= i:=Nat.le_trans (List.length_filter_le _ _) (by rw[List.length_take];omega)
 refine⟨hDi,by omega,?_⟩
 by_cases hlt:i < us.length
 ·refine .inr ⟨⟨us,us[i],SqL.of (sm _ _ ha),by simp[hlt]⟩,fun x H' y=>?_⟩
  obtain⟨e,y⟩:=y
  subst e
  have hx:=y us (SqL.of (sm _ _ ha))
  obtain⟨f,hf,hfi⟩:=hus.get hx
  have fm:=List.mem_of_getElem? hf
  refine hc f x _ fm (sB _ _ _ _ (au sm) hfi) sm _ fun H2 s2=>?_
  have hD2:=s2 _ _ hDi
  have et:(G.take (i+1)).filter pr=(G.take i).filter pr++[f].filter pr:=by rw[aJ hf,List.filter_append]
  cases hp:pr f with
  | true=>
   rw[if_pos rfl]
   refine he f x H2 fm (sB _ _ _ _ (au (sm.trans s2)) hfi) (sm.trans s2) _ fun y H3 s3 hR=>⟨s3 _ _ hD2,us.length - (i+1),by omega,rfl,by omega,aN hD (sm.trans (s2.trans s3)),aa,?_⟩
   have tD:=aI (ys:=acc++[y]) (s3 _ _ hD2)
   rw[et,List.filter_cons_of_pos hp,List.filter_nil]
   exact (hr.imp fun f v h=>st _ _ f v ((au (s2.trans s3)).trans tD) h).snoc (st _ _ _ _ tD hR)
  | false=>
   rw[if_neg (by simp)]
   refine⟨us.length - (i+1),by omega,rfl,by omega,sm.trans s2,hD2,?_⟩
   rw[et,List.filter_cons_of_neg (by simp[hp]),List.filter_nil,List.append_nil]
   exact hr.imp fun f v h=>st _ _ f v (au s2) h
 ·have e:i=us.length:=by omega
  subst e
  rw[lus,List.take_length] at hr
  exact .inl ⟨⟨us,SqL.of (sm _ _ ha),Nat.le_refl _⟩,hq acc H sm hDi hr⟩
theorem sv {H:Hp}:∀ {xs:List (SpK × Addr × V)} {sps:List bJ},xs.map Prod.fst=sps.map spk->(∀ x ∈ xs,keyS H x.1 x.2.1)->L2R (SpIs H) sps (xs.map fun x=>V.ref x.2.1)
 | [],[],_,_=>.nil
 | [],_::_,h,_=>by cases h
 | _::_,[],h,_=>by cases h
 | x::xs,sp::sps,h,k=>by
  obtain⟨h1,h2⟩:=List.cons.inj h
  have hk:=k x (by simp)
  rw[show x.1=spk sp from h1] at hk
  exact .cons (tI hk) (sv h2 fun y hy=>k y (by simp[hy]))
theorem iX {α:Type} {f:α->Str}:∀ {as:List α} {vs:List V},L2R (fun a v=>v=V.str (f a)) as vs->vs=(as.map f).map V.str
 | _,_,.nil=>rfl
 | _,_,.cons h r=>by rw[h,iX r];rfl
theorem wR {z:Str} (h:pK z):1 <= z.length/\z.length <= 8/\∀ c ∈ z.cps.toList,c < 128:=by
 obtain⟨h1,h2,_⟩:=id h
 rw[bo]
 exact⟨List.length_pos_iff.mpr h1,h2,(ma h).2⟩
section
variable {P:Program} {w:World} {K:W.Frag} {mg:Str->Option Value} {base:Heap} {T:Adr}
theorem ok_law (X:Tx K mg T):FnOk P w K mg base CX0 140 T.law T.d_law ["_law_script"] (spLaw K):=by
 have G_qBE:=(uv (P:=P) (w:=w) (base:=base) X).mono (show 1 <= 139 by decide)
 have G_qBA:=(uw (P:=P) (w:=w) (base:=base) X).mono (show 30 <= 139 by decide)
 have G_qBC:=(uq (P:=P) (w:=w) (base:=base) X).mono (show 20 <= 139 by decide)
 have G_qAF:=(uz (P:=P) (w:=w) (base:=base) X).mono (show 71 <= 139 by decide)
 have G_qAA:=(qH (P:=P) (w:=w) (base:=base) X).mono (show 21 <= 139 by decide)
 have G_qAQ:=(jQ (P:=P) (w:=w) (base:=base) X).mono (show 1 <= 139 by decide)
 have G_qAE:=(ul (P:=P) (w:=w) (base:=base) X).mono (show 21 <= 139 by decide)
 have G_qAT:=(qL (P:=P) (w:=w) (base:=base) X).mono (show 2 <= 139 by decide)
 have G_qBL:=(wO (P:=P) (w:=w) (base:=base) X).mono (show 1 <= 139 by decide)
 refine X.F_law.okQ sc_law (fun vs H Q E h=>?_) (fun cdv A outer s H vs Q E hr h=>?_)
 ·obtain⟨_,_,rfl,_⟩:=h
  rfl
 obtain⟨a,ns,rfl,hS,h63,q⟩:=h
 refine⟨_,(ag (am (i:=1) sc_law.nd rfl (Or.inl rfl) (aq G_qBE hr rfl X.m_qBE X.F_qBE.kp X.b_qBE .nil aW (qaN (qv 0) (qaC af ae)))) (ag (am (i:=2) sc_law.nd rfl (Or.inl rfl) (aj aM (aj df (ao aS (qv 1) af (fun _ _=>rfl)) af) af)) (ag (ik (aq G_qBA hr rfl X.m_qBA X.F_qBA.kp X.b_qBA .nil aW (qaN (qv 1) ae)) (dF rfl (aQ (az (i:=3) sc_law.nd rfl (Or.inl rfl)) (aQ (az (i:=4) sc_law.nd rfl (Or.inl rfl)) bY)))) (ag (am (i:=5) sc_law.nd rfl (Or.inl rfl) (aq G_qBC hr rfl X.m_qBC X.F_qBC.kp X.b_qBC .nil aW (qaN (qv 3) (qaN (qv 4) ae)))) (ag (am (i:=6) sc_law.nd rfl (Or.inl rfl) (qg rfl rfl X.z_list (qv 5))) (ag (bp (cv (ci (aq G_qAF hr rfl X.m_qAF X.F_qAF.kp X.b_qAF .nil aW (qaN (qv 3) (qaN (qv 4) (qaN (qv 6) ae)))))) (ai (ay cT)) aL) (ag (am (i:=7) sc_law.nd rfl (Or.inl rfl) (aj dY (bc cI (qv 6) (bz (aj aM (qv 2) (aj bw (ax call_len_seq rfl X.z_len PySem.boot_len (qaN (qv 6) ae)) af))) bA) (bc cI (qv 6) bA (bz (aj aM (qv 2) (aj bw (ax call_len_seq rfl X.z_len PySem.boot_len (qaN (qv 6) ae)) af)))))) (ag (bq PassesOwn.never rfl (bB (aj dY (qv 7) (bc cI (qv 6) bA (bz af)))) (az (i:=8) sc_law.nd rfl (Or.inl rfl)) (ai (bp (cv (ci (aq G_qAA hr rfl X.m_qAA X.F_qAA.kp X.b_qAA .nil aW (qaN (qv 3) (qaN (qv 4) (qaN (qv 8) (qaS (qj hr.un80 (qv 5) (qv 8)) ae))))))) (ai (ay cT)) aL))) (ag (am (i:=9) sc_law.nd rfl (Or.inl rfl) (aq G_qAQ hr rfl X.m_qAQ X.F_qAQ.kp X.b_qAQ .nil aW (qaN (qv 4) ae))) (ag (bq PassesOwn.never rfl (aX rfl X.z_range (qaC af ae)) (az (i:=10) sc_law.nd rfl (Or.inl rfl)) (ag (am (i:=2) sc_law.nd rfl (Or.inl rfl) (aj aM (aj df (qv 2) af) af)) (ag (ik (ao aS (qv 9) (aj aM (qv 2) (ax call_len_seq rfl X.z_len PySem.boot_len (qaN (qv 9) ae))) (fun _ _=>rfl)) (dF rfl (aQ (az (i:=11) sc_law.nd rfl (Or.inr rfl)) (aQ (az (i:=12) sc_law.nd rfl (Or.inl rfl)) bY)))) (ag (am (i:=13) sc_law.nd rfl (Or.inr rfl) (bH (ys:=["_law_path"]) (js:=[11]) rfl rfl (bB (qv 6)) (fun _ _ _ _ _=>db (aK (uf (K:=K) rfl hr.units) (ao (bF (K:=K) rfl) (qv 0) af (fun _ _=>rfl)) (qv 1) (aP _))) (fun _ _ _ _ _=>(ao (bF (K:=K) rfl) (qv 0) af (fun _ _=>rfl))))) (ag (am (i:=14) sc_law.nd rfl (Or.inl rfl) (ao aS (aj dY (bH (ys:=["_law_used"]) (js:=[13]) rfl rfl (bB (qv 6)) (fun _ _ _ _ _=>db (aK (gE (K:=K) rfl) (ao (bF (K:=K) rfl) (qv 0) af (fun _ _=>rfl)) (qv 1) rfl)) (fun _ _ _ _ _=>(ao (bF (K:=K) rfl) (qv 0) af (fun _ _=>rfl)))) (aV (qaC aw ae))) (aj cx (aj aO (aj aM (aj aO (qv 2) af) af) af) af) (fun _ _=>rfl))) (ag (bp (cv (ci (aq G_qAE hr rfl X.m_qAE X.F_qAE.kp X.b_qAE .nil aW (qaN (qv 3) (qaN (qv 4) (qaT (ak (qaN (qv 11) (qaK (aq G_qAT hr rfl X.m_qAT X.F_qAT.kp X.b_qAT .nil aW (qaN (qv 13) (qaN (qv 14) (qaN (qv 2) ae)))) ae))) ae)))))) (ai (ay cT)) aL) (ag (bp (lQ (jK (aK dc (qv 14) (qv 13) rfl) (ja (cv (ci (aq G_qAE hr rfl X.m_qAE X.F_qAE.kp X.b_qAE .nil aW (qaN (qv 3) (qaN (qv 4) (qaT (ak (qaN (qv 11) (qaN (qv 14) ae))) ae))))))))) (ai (ay cT)) aL) (ai (bp (cv (ci (aq G_qAE hr rfl X.m_qAE X.F_qAE.kp X.b_qAE .nil aW (qaN (qv 3) (qaN (qv 4) (qaT (ak (qaK (aq G_qBL hr rfl X.m_qBL X.F_qBL.kp X.b_qBL .nil aW (qaN (qv 4) (qaN (qv 11) (qaB (aj aO (qv 2) af) ae)))) (qaS (ao aS (aj dY (qv 13) (aV (qaC aw ae))) af (fun _ _=>rfl)) ae))) ae)))))) (ai (ay cT)) aL))))))))) (ai (ay (aq G_qAF hr rfl X.m_qAF X.F_qAF.kp X.b_qAF .nil aW (qaN (qv 3) (qaN (qv 4) (qaN (qv 6) ae)))))))))))))))),?_⟩
 dsimp only[cm]
 refine⟨_,rfl,a,ns,rfl,hS,h63,fun D cs H1 s1 nD hD lcs hcs=>?_⟩
 obtain⟨c3,hc3⟩:=aH (xs:=cs) (i:=3) (by omega)
 have hat3:atI (cs.map V.int) 3=some (.int c3):=bt (j:=3) (by rw[List.getElem?_map,hc3];rfl)
 refine⟨_,rfl,D,_,3,.int c3,rfl,rfl,SqL.of hD,hat3,_,_,rfl,rfl,.inr ⟨by decide,by decide⟩,_,_,rfl,rfl,(by show (0:Int) < 2147483647;decide),?_⟩
 dsimp only
 generalize c3 * 48271 % 2147483647=c
 refine⟨_,rfl,D,cs,rfl,hD,lcs,fun x vg vt g t H2 k2 hx hg ht ok=>?_⟩
 have gt:=ok.gt
 obtain⟨s0,hs⟩:=gt.ft
 have lsp:=dJ gt.G hs
 have sz:=gt.sz
 refine⟨x,_,rfl,SqT.of hx,rfl,_,_,rfl,_,_,rfl,rfl,?_⟩
 refine⟨_,rfl,_,rfl,g,t,vg,vt,rfl,hg,gt,ht,fun d xs H3 s3 nd hds hiv=>?_⟩
 refine⟨_,rfl,d,xs,rfl,hds,fun E1 nE1=>?_⟩
 have s4:=ac nE1 (.lst (xs.map fun x=>V.ref x.2.1))
 have hE4:=aa (H:=H3) (a:=E1) (o:=.lst (xs.map fun x=>V.ref x.2.1))
 have hdue:L2R (SpIs (upd H3 E1 (.lst (xs.map fun x=>V.ref x.2.1)))) (aE g t) (xs.map fun x=>V.ref x.2.1):=sv hiv.keys (hds.same s4).2
 have s34:=s3.trans s4
 have hds4:=hds.same s4
 have hiv4:=hiv.same s4
 have hg4:=GrIs.same (au s34) hg
 have ht4:=TrIs.same (au s34) t ht
 generalize (xs.map fun x=>V.ref x.2.1)=ws at hE4 hdue hds4 hiv4 hg4 ht4 ⊢
 generalize upd H3 E1 (.lst ws)=H4 at hE4 hdue hds4 hiv4 hg4 ht4 ⊢
 have lws:=hdue.len
 refine⟨_,rfl,_,rfl,_,rfl,g,t,vg,vt,E1,ws,rfl,hg4,gt,ht4,hE4,hdue,fun H5 s5=>⟨_,rfl,hW ?_⟩⟩
 have hE5:=s5 _ _ hE4
 have hpos:(0:Int) < ((ws.length:Nat):Int)+1:=by omega
 have m0:=Int.emod_nonneg c (show ((ws.length:Nat):Int)+1 ≠ 0 by omega)
 have m1:=Int.emod_lt_of_pos c hpos
 obtain⟨m,hm⟩:=Int.eq_ofNat_of_zero_le m0
 refine⟨_,rfl,_,rfl,_,rfl,E1,ws,rfl,.inl (SqL.of hE5),_,_,rfl,rfl,_,_,rfl,rfl,hpos,_,rfl,E1,ws,rfl,SqL.of hE5,fun b1 hb1=>?_⟩
 dsimp only
 rw[hm,cR ws m]
 have u1:=ac hb1 (.lst (ws.drop m))
 refine⟨_,rfl,_,rfl,_,rfl,E1,ws,rfl,.inl (SqL.of (u1 _ _ hE5)),_,_,rfl,rfl,_,_,rfl,rfl,hpos,_,rfl,E1,ws,rfl,SqL.of (u1 _ _ hE5),fun b2 hb2=>?_⟩
 dsimp only
 rw[hm,bS ws m]
 have u2:=ac hb2 (.lst (ws.take m))
 refine⟨b1,b2,_,_,rfl,rfl,u2 _ _ aa,aa,bP (by rw[List.length_drop,List.length_take];omega),fun b3 hb3=>?_⟩
 have u3:=ac hb3 (.lst (ws.drop m++ws.take m))
 have u13:=u1.trans (u2.trans u3)
 have hb3':=aa (H:=upd (upd H5 b1 (.lst (ws.drop m))) b2 (.lst (ws.take m))) (a:=b3) (o:=.lst (ws.drop m++ws.take m))
 have hE6:=u13 _ _ hE5
 have s46:=s5.trans u13
 generalize upd (upd (upd H5 b1 (.lst (ws.drop m))) b2 (.lst (ws.take m))) b3 (.lst (ws.drop m++ws.take m))=H6 at hb3' hE6 s46 ⊢
 refine⟨_,rfl,_,rfl,_,rfl,E1,ws,rfl,SqL.of hE6,fun b4 hb4=>?_⟩
 rw[show (some 5:Option Int)=some ((5:Nat):Int) from rfl,bS ws 5]
 have u4:=ac hb4 (.lst (ws.take 5))
 refine⟨b3,b4,_,_,rfl,rfl,u4 _ _ hb3',aa,bP (by rw[List.length_append,List.length_drop,List.length_take,List.length_take];omega),fun b5 hb5=>?_⟩
 have u5:=ac hb5 (.lst (ws.drop m++ws.take m++ws.take 5))
 have hb5':=aa (H:=upd H6 b4 (.lst (ws.take 5))) (a:=b5) (o:=.lst (ws.drop m++ws.take m++ws.take 5))
 have s47:=s46.trans (u4.trans u5)
 have hall:L2R (SpIs H4) ((aE g t).drop m++(aE g t).take m++(aE g t).take 5) (ws.drop m++ws.take m++ws.take 5):=((gL m hdue).app (eM m hdue)).app (eM 5 hdue)
 have hin:∀ sp ∈ (aE g t).drop m++(aE g t).take m++(aE g t).take 5,sp ∈ aE g t:=fun sp h=>by
  rcases List.mem_append.mp h with h | h
  ·rcases List.mem_append.mp h with h | h
   ·exact List.mem_of_mem_drop h
   ·exact List.mem_of_mem_take h
  ·exact List.mem_of_mem_take h
 generalize (aE g t).drop m++(aE g t).take m++(aE g t).take 5=qs at hall hin
 generalize ws.drop m++ws.take m++ws.take 5=vs5 at hb5' hall s47 ⊢
 generalize upd (upd H6 b4 (.lst (ws.take 5))) b5 (.lst vs5)=H7 at hb5' s47 ⊢
 refine⟨b5,rfl,⟨_,SqL.of hb5'⟩,cq (K:=K) (a:=b5) (xs:=vs5) (fun i σ H'=>∃ x8,σ=[some (.ref a),some (.ref D),some (.int c),some vg,some vt,some (.ref d),some (.ref E1),some (.ref b3),x8,none,none,none,none,none,none]/\Same H7 H') ⟨none,rfl,Same.refl _⟩ (fun i σ H' _ ⟨_,_,sm⟩=>SqL.of (sm _ _ hb5')) ?_ ?_⟩
 ·rintro i v σ H' hv ⟨x8,rfl,sm⟩
  obtain⟨sp,hq,hsp⟩:=hall.get hv
  have hmem:=hin sp (List.mem_of_getElem? hq)
  have s4':=s47.trans sm
  have T':=au s4'
  obtain⟨ka,kb,rfl,hka,hkb⟩:=SpIs.same T' hsp
  obtain⟨y,hy,ey,hval⟩:=sR (hiv4.has hmem)
  obtain⟨l,lus,e1,hl,h3,_⟩:=hiv4.vs sp y hy ey
  rw[e1] at hval
  have hsp':SpIs H' sp (.ref ka):=⟨ka,kb,rfl,hka,hkb⟩
  refine⟨_,rfl,_,rfl,_,rfl,_,rfl,_,rfl,d,ka,xs,spk sp,.ref l,rfl,rfl,hds4.same s4',jp hsp',hval,?_⟩
  exact⟨g,t,vg,vt,.ref ka,l,lus,sp,rfl,GrIs.same T' hg4,gt,TrIs.same T' t ht4,hsp',hmem,s4' _ _ hl,(h3 trivial).imp fun _ _ h=>SpIs.same T' h,fun H8 s8=>⟨_,rfl,hW ⟨_,rfl,sm.trans s8⟩⟩⟩
 rintro σ H8 ⟨x8,rfl,s78⟩
 have s48:=s47.trans s78
 refine⟨_,rfl,t,vt,rfl,TrIs.same (au s48) t ht4,by omega,fun N nus H9 s9 hN hnus=>?_⟩
 have s49:=s48.trans s9
 have lnus:=hnus.len
 have lnd:=cU t (p:=[])
 have szp:=gv t
 have hE9:=s49 _ _ hE4
 have hdue9:=hdue.imp fun _ _ h=>SpIs.same (au s49) h
 have hg9:=GrIs.same (au s49) hg4
 have ht9:=TrIs.same (au s49) t ht4
 refine⟨_,rfl,(by decide),(by decide),cQ (n:=5) (fun i σ H'=>∃ c' x8 x10 x11 x12 x13 x14,σ=[some (.ref a),some (.ref D),some (.int c'),some vg,some vt,some (.ref d),some (.ref E1),some (.ref b3),x8,some (.ref N),x10,x11,x12,x13,x14]/\Same H9 H') ⟨c,_,_,_,_,_,_,rfl,Same.refl _⟩ ?_ ?_⟩
 ·rintro i σ H' hi ⟨c',x8',x10,x11,x12,x13,x14,rfl,sm⟩
  refine⟨_,rfl,_,_,rfl,rfl,.inr ⟨by decide,by decide⟩,_,_,rfl,rfl,(by show (0:Int) < 2147483629;decide),?_⟩
  dsimp only
  generalize c' * 69621 % 2147483629=cc
  have n0:=Int.emod_nonneg cc (show (nus.length:Int) ≠ 0 by omega)
  have n1:=Int.emod_lt_of_pos cc (show (0:Int) < (nus.length:Int) by omega)
  obtain⟨j,hj⟩:=Int.eq_ofNat_of_zero_le n0
  obtain⟨y,hy⟩:=aH (xs:=nus) (i:=j) (by omega)
  obtain⟨⟨p,u⟩,hnd,a1,pb,yu,rfl,ha1,hpb,hu⟩:=hnus.get hy
  have hpb:H9 pb=some (.tup (p.map V.int)):=hpb
  have hat:=nds_iff.mp (List.mem_of_getElem? hnd)
  have lp:p.length <= 60:=by
   have:=dy hat
   have:=bV t
   omega
  refine⟨_,rfl,_,rfl,_,rfl,N,nus,rfl,.inl (SqL.of (sm _ _ hN)),_,_,rfl,rfl,(by show (0:Int) < (nus.length:Int);omega),N,_,_,_,rfl,rfl,SqL.of (sm _ _ hN),(by rw[hj];exact bt hy),?_⟩
  refine⟨a1,_,rfl,SqT.of (sm _ _ ha1),rfl,_,_,rfl,_,_,rfl,rfl,?_⟩
  refine⟨_,rfl,E1,rfl,⟨_,SqL.of (sm _ _ hE9)⟩,fun U nU=>?_⟩
  refine pG (K:=K) (B:=SpIs) (a:=E1) (us:=ws) (G:=aE g t) (R:=fun _ sp v=>v=.str sp.2) (fun _ _ _ _ e h=>SpIs.same e h) (fun _ _ _ _ _ h=>h) (fun sp=>decide (sp.1=p)) (bM (by omega)) (sm _ _ hE9) (hdue9.imp fun _ _ h=>SpIs.same (au sm) h) nU (fun sp v' G1 _ hsp' sG Q' k=>?_) (fun sp v' G1 _ hsp' sG Q' k=>?_) (fun uvs G1 sU hU huv=>?_)
  ·obtain⟨ka,kb,rfl,hka,hkb⟩:=hsp'
   refine⟨_,rfl,ka,_,0,_,rfl,rfl,SqT.of hka,rfl,_,rfl,kb,pb,_,_,_,_,rfl,rfl,.inl ⟨SqT.of hkb,SqT.of (sG _ _ (sm _ _ hpb))⟩,fe _,fe _,by rw[kj];decide,_,rfl,?_⟩
   rw[oY]
   exact k _ (Same.refl _)
  ·obtain⟨ka,kb,rfl,hka,hkb⟩:=hsp'
   exact⟨_,rfl,ka,_,1,_,rfl,rfl,SqT.of hka,rfl,k _ _ (Same.refl _) rfl⟩
  have euv:uvs=(eH g t p).map V.str:=iX huv
  subst euv
  have lused:=pR gt.G hs hat
  have hmu:∀ n,n ∈ eH g t p ↔ n ∈ cY (sgn g u):=fun n=>jZ hat
  generalize eH g t p=used at hU lused hmu
  have smU:=sm.trans sU
  have hout:∀ n,n ∉ used->(p,n) ∉ aE g t:=fun n hn hm=>hn (by
   obtain⟨u',hu',hn'⟩:=mem_spots.mp hm
   have hu':atT p t=some u':=hu'
   rw[hat] at hu'
   cases hu'
   exact (hmu n).mpr hn')
  refine⟨_,rfl,E1,rfl,⟨_,SqL.of (smU _ _ hE9)⟩,fun V1 nV1=>?_⟩
  refine pG (K:=K) (B:=SpIs) (a:=E1) (us:=ws) (G:=aE g t) (R:=fun _ sp v=>v=.str sp.2) (fun _ _ _ _ e h=>SpIs.same e h) (fun _ _ _ _ _ h=>h) (fun sp=>!decide (sp.2 ∈ used)) (bM (by omega)) (smU _ _ hE9) (hdue9.imp fun _ _ h=>SpIs.same (au smU) h) nV1 (fun sp v' G2 _ hsp' sG Q' k=>?_) (fun sp v' G2 _ hsp' sG Q' k=>?_) (fun nvs G2 sV hV hnv=>?_)
  ·obtain⟨ka,kb,rfl,hka,hkb⟩:=hsp'
   refine⟨_,rfl,ka,_,1,.str sp.2,rfl,rfl,SqT.of hka,rfl,_,rfl,U,_,rfl,.inl (SqL.of (sG _ _ hU)),rfl,fi _,_,rfl,?_⟩
   show Q' (!inV (.str sp.2) (used.map V.str)) _
   rw[jt]
   exact k _ (Same.refl _)
  ·obtain⟨ka,kb,rfl,hka,hkb⟩:=hsp'
   exact⟨_,rfl,ka,_,1,_,rfl,rfl,SqT.of hka,rfl,k _ _ (Same.refl _) rfl⟩
  have env:nvs=(((aE g t).filter fun sp=>!decide (sp.2 ∈ used)).map Prod.snd).map V.str:=iX hnv
  subst env
  have hnms:∀ z ∈ ((aE g t).filter fun sp=>!decide (sp.2 ∈ used)).map Prod.snd,pK z:=fun z hz=>by
   obtain⟨sp,h1,rfl⟩:=List.mem_map.mp hz
   exact (iY gt (List.mem_filter.mp h1).1).2
  have lnm:(((aE g t).filter fun sp=>!decide (sp.2 ∈ used)).map Prod.snd).length <= 1000:=by
   rw[List.length_map]
   exact Nat.le_trans (List.length_filter_le _ _) (by omega)
  generalize ((aE g t).filter fun sp=>!decide (sp.2 ∈ used)).map Prod.snd=nms at hV hnms lnm
  refine⟨(by show 1 <= sizeLine;decide),fun L1 nL1=>?_⟩
  have w1:=ac nL1 (.lst [.str "ab"])
  refine⟨V1,L1,_,_,rfl,rfl,w1 _ _ hV,aa,bP (by rw[List.length_map,List.length_singleton];omega),fun L2' nL2=>?_⟩
  have w2:=ac nL2 (.lst (nms.map V.str++[.str "ab"]))
  obtain⟨near,hnear,hnok⟩ : ∃ near:Str,atI (nms.map V.str++[V.str "ab"]) (cc / 60 % 3 / 2 - 1)=some (.str near)/\(1 <= near.length/\near.length <= 8/\∀ c ∈ near.cps.toList,c < 128):=by
   have:cc / 60 % 3 / 2 - 1=-1\/cc / 60 % 3 / 2 - 1=0:=by omega
   have hab:(1 <= ("ab" : Str).length/\("ab" : Str).length <= 8/\∀ c ∈ ("ab" : Str).cps.toList,c < 128):=by decide +kernel
   rcases this with e | e
   ·rw[e]
    refine⟨"ab",?_,hab⟩
    unfold atI ixN
    rw[if_neg (by decide),List.length_append,List.length_map,List.length_singleton,if_pos (by omega)]
    show (some (-1+((nms.length+1:Nat):Int)).toNat).bind _=_
    have e3:(-1+((nms.length+1:Nat):Int)).toNat=(nms.map V.str).length:=by rw[List.length_map];omega
    rw[e3]
    simp
   ·rw[e]
    cases nms with
    | nil=>exact⟨"ab",rfl,hab⟩
    | cons z zs=>exact⟨z,dB _ _,wR (hnms z (by simp))⟩
  refine⟨_,rfl,_,_,rfl,rfl,⟨by decide,by decide⟩,_,_,rfl,rfl,(by show (0:Int) < 3;decide),_,_,rfl,rfl,⟨by decide,by decide⟩,_,_,rfl,rfl,L2',_,_,.str near,rfl,rfl,SqL.of aa,hnear,?_⟩
  have sK:=sV.trans (w1.trans w2)
  have hU3:=sK _ _ hU
  have s3A:=smU.trans sK
  generalize upd (upd G2 L1 (.lst [.str "ab"])) L2' (.lst (nms.map V.str++[.str "ab"]))=G3 at hU3 s3A ⊢
  refine⟨_,rfl,_,rfl,_,rfl,_,rfl,_,rfl,_,rfl,U,used,near,cc,rfl,hU3,by omega,hnok.1,hnok.2.1,hnok.2.2,fun z G4 s4' hz nz=>⟨(by show 2 <= sizeLine;decide),fun kt nkt=>?_⟩⟩
  have w5:=ac nkt (.tup [.ref pb,.str z])
  have s5A:=s3A.trans (s4'.trans w5)
  have T5:=au s5A
  refine⟨g,t,vg,vt,.ref kt,(p,z),rfl,GrIs.same T5 hg9,gt,TrIs.same T5 t ht9,⟨kt,pb,rfl,aa,T5 _ _ hpb⟩,nz.tx,(by show p.length <= 1000;omega),hout z hz,fun G6 s6=>⟨_,rfl,hW ?_⟩⟩
  have s6A:=s5A.trans s6
  have hU6:=(s4'.trans (w5.trans s6)) _ _ hU3
  refine uF ?_
  dsimp only
  refine kD (fun _=>False) (fun G'=>Same H9 G'/\G' U=some (.lst (used.map V.str))) (fun Q' qT qF=>?_) (fun G' h=>h.elim) (fun G' ⟨s7,hU7⟩=>?_)
  ·refine⟨_,rfl,_,rfl,U,_,rfl,.inl (SqL.of hU6),rfl,fi _,_,rfl,?_⟩
   show if (!inV (.str near) (used.map V.str))=true then _ else _
   rw[jt]
   refine oK (fun hn=>?_) (fun hn=>qF _ ⟨s6A,hU6⟩)
   refine⟨_,rfl,_,rfl,_,rfl,_,rfl,(by show 2 <= sizeLine;decide),fun kt2 nkt2=>?_⟩
   have w7:=ac nkt2 (.tup [.ref pb,.str near])
   have s7A:=s6A.trans w7
   have T7:=au s7A
   exact⟨g,t,vg,vt,.ref kt2,(p,near),rfl,GrIs.same T7 hg9,gt,TrIs.same T7 t ht9,⟨kt2,pb,rfl,aa,T7 _ _ hpb⟩,(show iU near from ⟨by have:=hnok.2.1;omega,hnok.2.2⟩),(by show p.length <= 1000;omega),hout near hn,fun G8 s8=>⟨_,rfl,qF _ ⟨s7A.trans s8,(w7.trans s8) _ _ hU6⟩⟩⟩
  have T8:=au s7
  refine⟨_,rfl,_,rfl,_,rfl,_,rfl,_,rfl,_,_,rfl,rfl,⟨by decide,by decide⟩,t,u,vt,p,pb,_,rfl,TrIs.same T8 t ht9,T8 _ _ hpb,hat,lp,sz,fun r ob G8 s8 hob hodd lr=>⟨_,rfl,(by show 1 <= sizeLine;decide),fun L3 nL3=>?_⟩⟩
  have w8:=ac nL3 (.lst [.str "ab"])
  refine⟨U,L3,_,_,rfl,rfl,(s8.trans w8) _ _ hU7,aa,bP (by rw[List.length_map,List.length_singleton];omega),fun L4 nL4=>?_⟩
  have w9:=ac nL4 (.lst (used.map V.str++[.str "ab"]))
  obtain⟨nm,hnm,hntx⟩ : ∃ nm:Str,atI (used.map V.str++[V.str "ab"]) 0=some (.str nm)/\iU nm:=by
   cases used with
   | nil=>exact⟨"ab",rfl,by unfold iU;decide +kernel⟩
   | cons z zs=>exact⟨z,dB _ _,ma ((gt.W.sw _ (bX gt.G hs hat).1).2 z ((hmu z).mp (by simp)))⟩
  refine⟨L4,_,0,.str nm,rfl,rfl,SqL.of aa,hnm,(by show 2 <= sizeLine;decide),fun kt3 nkt3=>?_⟩
  have w10:=ac nkt3 (.tup [.ref ob,.str nm])
  have wA:=w8.trans (w9.trans w10)
  have s10A:=s7.trans (s8.trans wA)
  have T10:=au s10A
  have hout3:(r,nm) ∉ aE g t:=fun hm=>by
   obtain⟨u',hu',_⟩:=mem_spots.mp hm
   have hu':atT r t=some u':=hu'
   rw[hodd] at hu'
   cases hu'
  exact⟨g,t,vg,vt,.ref kt3,(r,nm),rfl,GrIs.same T10 hg9,gt,TrIs.same T10 t ht9,⟨kt3,ob,rfl,aa,wA _ _ hob⟩,hntx,(by show r.length <= 1000;omega),hout3,fun G11 s11=>⟨_,rfl,hW ⟨_,_,_,_,_,_,_,rfl,s10A.trans s11⟩⟩⟩
 ·rintro σ H' ⟨c',x8',x10,x11,x12,x13,x14,rfl,sm⟩
  have T':=au sm
  exact⟨_,rfl,_,rfl,_,rfl,g,t,vg,vt,E1,ws,rfl,GrIs.same T' hg9,gt,TrIs.same T' t ht9,sm _ _ hE9,hdue9.imp fun _ _ h=>SpIs.same T' h,fun H10 s10=>q _⟩
end
end K41
namespace K41
open PySem L2
end K41
open PySem PySem.W PyProof.Rows
set_option maxRecDepth 100000 in
set_option maxHeartbeats 0 in
theorem PySem.Challenge.cw_leafsay_k41_needs_holds : PySem.Challenge.rw_leafsay_k41_needs.Holds := by
 w_on;o_law;k_head;(case hw=>w_witness2)
 k_fill
 refine L2.walk_ofK (l:=PySem.Challenge.rw_leafsay_k41_needs) (n:=63) (k:=140) (x:="_law_script") (CX:=L2.CX0) (sp:=K41.spLaw) rfl (by decide) rfl ⟨rfl,by decide,by decide,rfl⟩ (fun w h Y=>PySem.W.kIn_of Y) ?F (fun K H a ns hl _ hS=>⟨a,ns,rfl,hS,hl,fun _=>rfl⟩) (fun _ _ _ _ z=>z)
 case F=>
  intro w mg fa h KX G hmg
  have T:∃ T:K41.Adr,K41.Tx (L2.KOf KX) mg T:=by
   dsimp only[L2.KOf]
   refine' K41.tx_mk KX G ?m_LeafError ?m_NoText ?m_TooGreat ?m_NoName ?m_NoRule ?m_NoKind ?m_NoTree ?m_NoPlace ?m_NoGiven ?m_NoWalk ?m_Ring ?a0 ?l0 ?c0 ?k0 ?a1 ?l1 ?c1 ?k1 ?a2 ?l2 ?c2 ?k2 ?a3 ?l3 ?c3 ?k3 ?a4 ?l4 ?c4 ?k4 ?a5 ?l5 ?c5 ?k5 ?a6 ?l6 ?c6 ?k6 ?a7 ?l7 ?c7 ?k7 ?a8 ?l8 ?c8 ?k8 ?a9 ?l9 ?c9 ?k9 ?a10 ?l10 ?c10 ?k10 ?a11 ?l11 ?c11 ?k11 ?a12 ?l12 ?c12 ?k12 ?a13 ?l13 ?c13 ?k13 ?a14 ?l14 ?c14 ?k14 ?a15 ?l15 ?c15 ?k15 ?a16 ?l16 ?c16 ?k16 ?a17 ?l17 ?c17 ?k17 ?a18 ?l18 ?c18 ?k18 ?a19 ?l19 ?c19 ?k19 ?a20 ?l20 ?c20 ?k20 ?a21 ?l21 ?c21 ?k21 ?a22 ?l22 ?c22 ?k22 ?a23 ?l23 ?c23 ?k23 ?a24 ?l24 ?c24 ?k24 ?a25 ?l25 ?c25 ?k25 ?a26 ?l26 ?c26 ?k26 ?a27 ?l27 ?c27 ?k27 ?a28 ?l28 ?c28 ?k28 ?a29 ?l29 ?c29 ?k29 ?a30 ?l30 ?c30 ?k30 ?a31 ?l31 ?c31 ?k31 ?a32 ?l32 ?c32 ?k32 ?a33 ?l33 ?c33 ?k33 ?a34 ?l34 ?c34 ?k34 ?a35 ?l35 ?c35 ?k35 ?a36 ?l36 ?c36 ?k36 ?a37 ?l37 ?c37 ?k37 ?a38 ?l38 ?c38 ?k38 ?a39 ?l39 ?c39 ?k39 ?z_ValueError ?z_bool ?z_dict ?z_enumerate ?z_int ?z_isinstance ?z_len ?z_list ?z_min ?z_range ?z_reversed ?z_str ?z_tuple ?z_zip ?e_LeafError ?e_NoName ?xga_NoName ?xgt_NoName ?xca_NoName ?xsp_NoName ?xtk_NoName ?xmo_NoName ?xmb_NoName ?u_NoName_LeafError ?i_NoName_0 ?i_NoName_1 ?i_NoName_2 ?e_NoRule ?xga_NoRule ?xgt_NoRule ?xca_NoRule ?xsp_NoRule ?xtk_NoRule ?xmo_NoRule ?xmb_NoRule ?u_NoRule_LeafError ?i_NoRule_0 ?i_NoRule_1 ?i_NoRule_2 ?e_NoPlace ?xga_NoPlace ?xgt_NoPlace ?xca_NoPlace ?xsp_NoPlace ?xtk_NoPlace ?xmo_NoPlace ?xmb_NoPlace ?u_NoPlace_LeafError ?i_NoPlace_0 ?i_NoPlace_1 ?i_NoPlace_2
   (case m_LeafError=>k_is)
   (case m_NoText=>k_is)
   (case m_TooGreat=>k_is)
   (case m_NoName=>k_is)
   (case m_NoRule=>k_is)
   (case m_NoKind=>k_is)
   (case m_NoTree=>k_is)
   (case m_NoPlace=>k_is)
   (case m_NoGiven=>k_is)
   (case m_NoWalk=>k_is)
   (case m_Ring=>k_is)
   (case a0=>k_is)
   (case l0=>k_is)
   (case c0=>k_is)
   (case k0=>k_is)
   (case a1=>k_is)
   (case l1=>k_is)
   (case c1=>k_is)
   (case k1=>k_is)
   (case a2=>k_is)
   (case l2=>k_is)
   (case c2=>k_is)
   (case k2=>k_is)
   (case a3=>k_is)
   (case l3=>k_is)
   (case c3=>k_is)
   (case k3=>k_is)
   (case a4=>k_is)
   (case l4=>k_is)
   (case c4=>k_is)
   (case k4=>k_is)
   (case a5=>k_is)
   (case l5=>k_is)
   (case c5=>k_is)
   (case k5=>k_is)
   (case a6=>k_is)
   (case l6=>k_is)
   (case c6=>k_is)
   (case k6=>k_is)
   (case a7=>k_is)
   (case l7=>k_is)
   (case c7=>k_is)
   (case k7=>k_is)
   (case a8=>k_is)
   (case l8=>k_is)
   (case c8=>k_is)
   (case k8=>k_is)
   (case a9=>k_is)
   (case l9=>k_is)
   (case c9=>k_is)
   (case k9=>k_is)
   (case a10=>k_is)
   (case l10=>k_is)
   (case c10=>k_is)
   (case k10=>k_is)
   (case a11=>k_is)
   (case l11=>k_is)
   (case c11=>k_is)
   (case k11=>k_is)
   (case a12=>k_is)
   (case l12=>k_is)
   (case c12=>k_is)
   (case k12=>k_is)
   (case a13=>k_is)
   (case l13=>k_is)
   (case c13=>k_is)
   (case k13=>k_is)
   (case a14=>k_is)
   (case l14=>k_is)
   (case c14=>k_is)
   (case k14=>k_is)
   (case a15=>k_is)
   (case l15=>k_is)
   (case c15=>k_is)
   (case k15=>k_is)
   (case a16=>k_is)
   (case l16=>k_is)
   (case c16=>k_is)
   (case k16=>k_is)
   (case a17=>k_is)
   (case l17=>k_is)
   (case c17=>k_is)
   (case k17=>k_is)
   (case a18=>k_is)
   (case l18=>k_is)
   (case c18=>k_is)
   (case k18=>k_is)
   (case a19=>k_is)
   (case l19=>k_is)
   (case c19=>k_is)
   (case k19=>k_is)
   (case a20=>k_is)
   (case l20=>k_is)
   (case c20=>k_is)
   (case k20=>k_is)
   (case a21=>k_is)
   (case l21=>k_is)
   (case c21=>k_is)
   (case k21=>k_is)
   (case a22=>k_is)
   (case l22=>k_is)
   (case c22=>k_is)
   (case k22=>k_is)
   (case a23=>k_is)
   (case l23=>k_is)
   (case c23=>k_is)
   (case k23=>k_is)
   (case a24=>k_is)
   (case l24=>k_is)
   (case c24=>k_is)
   (case k24=>k_is)
   (case a25=>k_is)
   (case l25=>k_is)
   (case c25=>k_is)
   (case k25=>k_is)
   (case a26=>k_is)
   (case l26=>k_is)
   (case c26=>k_is)
   (case k26=>k_is)
   (case a27=>k_is)
   (case l27=>k_is)
   (case c27=>k_is)
   (case k27=>k_is)
   (case a28=>k_is)
   (case l28=>k_is)
   (case c28=>k_is)
   (case k28=>k_is)
   (case a29=>k_is)
   (case l29=>k_is)
   (case c29=>k_is)
   (case k29=>k_is)
   (case a30=>k_is)
   (case l30=>k_is)
   (case c30=>k_is)
   (case k30=>k_is)
   (case a31=>k_is)
   (case l31=>k_is)
   (case c31=>k_is)
   (case k31=>k_is)
   (case a32=>k_is)
   (case l32=>k_is)
   (case c32=>k_is)
   (case k32=>k_is)
   (case a33=>k_is)
   (case l33=>k_is)
   (case c33=>k_is)
   (case k33=>k_is)
   (case a34=>k_is)
   (case l34=>k_is)
   (case c34=>k_is)
   (case k34=>k_is)
   (case a35=>k_is)
   (case l35=>k_is)
   (case c35=>k_is)
   (case k35=>k_is)
   (case a36=>k_is)
   (case l36=>k_is)
   (case c36=>k_is)
   (case k36=>k_is)
   (case a37=>k_is)
   (case l37=>k_is)
   (case c37=>k_is)
   (case k37=>k_is)
   (case a38=>k_is)
   (case l38=>k_is)
   (case c38=>k_is)
   (case k38=>k_is)
   (case a39=>k_is)
   (case l39=>k_is)
   (case c39=>k_is)
   (case k39=>k_is)
   (case z_ValueError=>k_is)
   (case z_bool=>k_is)
   (case z_dict=>k_is)
   (case z_enumerate=>k_is)
   (case z_int=>k_is)
   (case z_isinstance=>k_is)
   (case z_len=>k_is)
   (case z_list=>k_is)
   (case z_min=>k_is)
   (case z_range=>k_is)
   (case z_reversed=>k_is)
   (case z_str=>k_is)
   (case z_tuple=>k_is)
   (case z_zip=>k_is)
   (case e_LeafError=>k_exc)
   (case e_NoName=>k_exc)
   (case xga_NoName=>k_is)
   (case xgt_NoName=>k_is)
   (case xca_NoName=>k_is)
   (case xsp_NoName=>k_is)
   (case xtk_NoName=>k_is)
   (case xmo_NoName=>k_is)
   (case xmb_NoName=>k_is)
   (case u_NoName_LeafError=>k_is)
   (case i_NoName_0=>kit_is)
   (case i_NoName_1=>kit_is)
   (case i_NoName_2=>kit_is)
   (case e_NoRule=>k_exc)
   (case xga_NoRule=>k_is)
   (case xgt_NoRule=>k_is)
   (case xca_NoRule=>k_is)
   (case xsp_NoRule=>k_is)
   (case xtk_NoRule=>k_is)
   (case xmo_NoRule=>k_is)
   (case xmb_NoRule=>k_is)
   (case u_NoRule_LeafError=>k_is)
   (case i_NoRule_0=>kit_is)
   (case i_NoRule_1=>kit_is)
   (case i_NoRule_2=>kit_is)
   (case e_NoPlace=>k_exc)
   (case xga_NoPlace=>k_is)
   (case xgt_NoPlace=>k_is)
   (case xca_NoPlace=>k_is)
   (case xsp_NoPlace=>k_is)
   (case xtk_NoPlace=>k_is)
   (case xmo_NoPlace=>k_is)
   (case xmb_NoPlace=>k_is)
   (case u_NoPlace_LeafError=>k_is)
   (case i_NoPlace_0=>kit_is)
   (case i_NoPlace_1=>kit_is)
   (case i_NoPlace_2=>kit_is)
  obtain⟨T,TX⟩:=T
  have e0:=hmg.symm.trans TX.m_law
  cases e0
  obtain⟨oc,od,kV,doc,pm,an,cdv,ct,osl,efd,_,_⟩:=TX.F_law.ex
  refine⟨T.d_law,fun s u=>?_,fun base _ _=>K41.ok_law TX⟩
  rw[efd]
  exact .of_eq rfl
