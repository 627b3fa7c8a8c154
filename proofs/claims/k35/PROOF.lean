import PyProof.Rows.All
import Wide.All
import OpenK.AllK
import Wide.FinOn
import Lean
import PyProof.EqAt
import PyProof.EqKinds
import PyProof.TupleCall
import PyProof.NeKinds
import PyProof.FitsReplace
import PyProof.Rows.SumAny
import PyProof.Rows.MinMaxN
import PyProof.Rows.CallKwBuiltin
import PyProof.StrBlock2
import KE.KMinKey
import OpenK.KOwn
import PyProof.ExcArgsOwn
import KE.KIsAll
import PyProof.ReprRoads
import PyProof.ReprBulk
import PyProof.StrWalks
import PyProof.ConsumeWalk
import PyProof.StrCalls2
import PyProof.EnumMake
import PyProof.Draws
import PyProof.Rows.EnumRows
import PyProof.Rows.FactsT2
import PyProof.CompUse
import KE.KRevIter
import PyProof.ListStr
import KE.KIntText
import PyProof.StrLawsIdx
import PyProof.StrLawsNeg
import PyProof.StrLawsTight
import PyProof.StrLawsChain
import PyProof.Rows.StrItems
import PyProof.Rows.StrFirst
import PyProof.Rows.StrLawsPart
import PyProof.Rows.Range3
import PyProof.Rows.StrWeight2
import PyProof.AutoListH
import PyProof.TupleOfGen
import PyProof.WalksEnum
import PyProof.FactsAll.range_2
import PyProof.ZipIter
import PyProof.MeetsSeq
import PyProof.Rows.StrInSeq3
import PyProof.FactsAll.list_3
import KE.KTryOn
import OpenK.KRaise
import PyProof.DictItems
import KE.KPairComp
import PyProof.Rows.SetFrom
import PyProof.SetRoads
import PyProof.AttrMissHeap
import KE.KDictOf
import PyProof.DictWalks
import KE.KUnpack
import PySem.Challenge.RW_leafsay_k35_grown
/-! Names that stand for nothing: where a name is taken, the head goes on without the twin of that name, and the compiled text stays small. -/
namespace PySem.W.Fast
def tw11746180915380515391:=0
def tw11213114900382416267:=0
def tw17681091385831924122:=0
def tw6457282920838680148:=0
def tw14724574233024813095:=0
def tw1630380869214257117:=0
def tw8246610457233413242:=0
def tw14447890328769573787:=0
def tw8756650833939031397:=0
def tw17004291139642493852:=0
def tw9497643443906687898:=0
def tw8013481971814696:=0
def tw7609548791624457621:=0
def tw828741354314634175:=0
def tw13445194962113585814:=0
def tw1467176841892796233:=0
def tw12701201380967453506:=0
def tw13976749406620082120:=0
def tw11904775602510392421:=0
def tw13422968722156084274:=0
def tw17944083904578614508:=0
def tw3464902154672006041:=0
def tw14221737216304462474:=0
def tw10792442179690297380:=0
def tw15866910094899527640:=0
def tw16277594957506505931:=0
def tw18028453078835515307:=0
def tw302426954258114090:=0
def tw3720862059512911701:=0
def tw1348407217977543221:=0
def tw9555354438034525875:=0
def tw1569370395716605420:=0
def tw90797373664933321:=0
def tw4873552314663150482:=0
def tw9332033959081980388:=0
def tw12981854870778809141:=0
def tw7433709143234370999:=0
def tw16462558111334716343:=0
def tw17907775644844995747:=0
def tw1279105206028382569:=0
def tw9599547150590610021:=0
def tw2193680739651552552:=0
def tw16065736900496150771:=0
def tw9873846717595794375:=0
def tw3119326206763057325:=0
def tw944994438405280206:=0
def tw1260342476361384608:=0
def tw16042075530501753782:=0
def tw9462294145843819423:=0
def tw15520197879567892804:=0
def tw18153390030889603588:=0
def tw13365977620369212030:=0
def tw6308126415587111672:=0
def tw3309965837681570345:=0
def tw7760849691924157514:=0
def tw1540917516838615286:=0
def tw12510376378845825712:=0
def tw12160742312613416445:=0
def tw6902790983772117675:=0
def tw5800096158765420713:=0
def tw2329514607789179805:=0
def tw9326963636593987587:=0
def tw9351787297239549260:=0
def tw5045649722856137634:=0
def tw9067992275996440234:=0
def tw6940862961616038008:=0
def tw6744079571615980463:=0
def tw16468740058419355198:=0
def tw8219450087748827602:=0
def tw11667236553220040632:=0
def tw15145290049859733604:=0
def tw16937762271651021540:=0
def tw6871628021102669411:=0
def tw13234193957403351630:=0
def tw6603849130569178673:=0
def tw5817999784659859635:=0
def tw16390498373975637296:=0
def tw4756802100062884749:=0
def tw2277550823278645312:=0
def tw17016799057282470456:=0
def tw1848705709650810980:=0
def tw11093601082992614078:=0
def tw18247596526487743016:=0
def tw8631918473952592168:=0
def tw593544323646695880:=0
def tw6521133397402326290:=0
def tw4152163086111335187:=0
def tw2272791476090034320:=0
def tw8422400836085815284:=0
def tw16963528341433597095:=0
def tw3498169306307147681:=0
def tw10015415115934164604:=0
def tw10551973334245309186:=0
def tw15690466101148790403:=0
def tw17308633395603220521:=0
def tw8993321106676126040:=0
def tw4865017407261443695:=0
def tw1767007664013411419:=0
def tw12824625797421709268:=0
def tw16083823317035470259:=0
def tw9646751271408280226:=0
def tw5114165551174911189:=0
def tw8608393477798464507:=0
def tw6606739287944880036:=0
def tw17122369575657583877:=0
def tw4895504607794135536:=0
def tw16337994865358503099:=0
def tw15064427518165000548:=0
def tw824054305054767407:=0
def tw5926849839384599661:=0
def tw8072249251853194580:=0
def tw7247732154397274762:=0
def tw16894922641793329424:=0
def tw10092831079116446018:=0
def tw17695792442571342241:=0
def tw14342633608025811920:=0
def tw9145206833322020452:=0
def tw10984785990373973124:=0
def tw8370907062322260873:=0
def tw11690631322240537894:=0
def tw15136402249268413413:=0
def tw7363020045293648694:=0
def tw11633612278673485307:=0
def tw11938490871365757521:=0
def tw1896386739934024186:=0
def tw2800117056385144666:=0
def tw1537427051225892174:=0
def tw5565965947942942836:=0
def tw12653300760412580234:=0
def tw1518218330490655050:=0
def tw6342773335155879444:=0
def tw17585418614585959834:=0
def tw1683750860355090447:=0
def tw11185348459640483418:=0
def tw14881383392524203461:=0
def tw1616775555108697635:=0
def tw8634908963247513086:=0
def tw15592267606902678964:=0
def tw6948013920925423123:=0
def tw13767698485263172595:=0
def tw8080503704815016032:=0
def tw17148926121046573736:=0
def tw12428175495566020234:=0
def tw17437654877260800029:=0
def tw1699376471369109260:=0
def tw3750606544241103713:=0
def tw15966574147514562915:=0
def tw13246415028808623275:=0
def tw9814138415156269828:=0
def tw448407029988662469:=0
def tw12834639332480921727:=0
def tw7212837230000519250:=0
def tw15247104361247145893:=0
def tw11655297521283969282:=0
def tw10073311508053725791:=0
def tw16716923815460732416:=0
def tw17558613472427905897:=0
def tw14261621274833345785:=0
def tw11403675511591960259:=0
def tw2690854734301146073:=0
def tw9021928763659184847:=0
def tw8859478492446642931:=0
def tw6013412799500305304:=0
def tw542720776770429359:=0
def tw7734411825897607106:=0
def tw7786737013277214616:=0
def tw2076522770905817480:=0
def tw12998809079883851351:=0
def tw6127654936499606671:=0
def tw1196690951833932660:=0
def tw10436188911960312339:=0
def tw10115096591908973097:=0
def tw15139583816390074993:=0
def tw9677968107786571099:=0
def tw5674863382131333257:=0
end PySem.W.Fast
def PySem.W.Fast.tw6878571814522779366 : PySem.Program := PySem.Challenge.pw_leafsay_k35_grown
theorem PySem.W.Fast.te6878571814522779366 : PySem.Challenge.pw_leafsay_k35_grown = PySem.W.Fast.tw6878571814522779366 := rfl
set_option Elab.async false
set_option linter.all false
set_option maxRecDepth 100000
noncomputable section
namespace L2
open PySem PySem.Spec PyProof.Rows
abbrev Key:=Sum Int Str
noncomputable def keyIs:Key->Value->Bool
  | .inl k,v=>Value.isInt k v
  | .inr x,v=>Value.isStrOf x v
noncomputable def keyH (w:World):Key->Int
  | .inl k=>hashInt k
  | .inr x=>hashStr w x
theorem keyIs_shape:∀ {k:Key} {v:Value},keyIs k v=true->(∃ i t,k=Sum.inl i/\v=Value.int i t)\/(∃ x t,k=Sum.inr x/\v=Value.str x t)
  | .inl i,v,h=>by
    obtain⟨t,e⟩:=Value.isInt_shape (k:=i) (v:=v) h
    exact .inl ⟨i,t,rfl,e⟩
  | .inr x,v,h=>by
    obtain⟨t,e⟩:=Value.isStrOf_shape (x:=x) (v:=v) h
    exact .inr ⟨x,t,rfl,e⟩
theorem keyIs_int (i:Int) (t:Tok):keyIs (.inl i) (.int i t)=true:=by simp[keyIs,Value.isInt]
theorem keyIs_str (x:Str) (t:Tok):keyIs (.inr x) (.str x t)=true:=by simp[keyIs,Value.isStrOf]
theorem key_ll (a b:Int):decide ((Sum.inl a:Key)=Sum.inl b)=(a == b):=by
  by_cases e:a=b
  · subst e;simp
  · have h:¬ (Sum.inl a:Key)=Sum.inl b:=fun q=>e (Sum.inl.inj q)
    rw[decide_eq_false h]
    exact (beq_eq_false_iff_ne.mpr e).symm
theorem key_rr (a b:Str):decide ((Sum.inr a:Key)=Sum.inr b)=decide (a=b):=by
  by_cases e:a=b
  · subst e;simp
  · have h:¬ (Sum.inr a:Key)=Sum.inr b:=fun q=>e (Sum.inr.inj q)
    rw[decide_eq_false h,decide_eq_false e]
theorem key_lr (a:Int) (b:Str):decide ((Sum.inl a:Key)=Sum.inr b)=false:=decide_eq_false (fun q=>nomatch q)
theorem key_rl (a:Str) (b:Int):decide ((Sum.inr a:Key)=Sum.inl b)=false:=decide_eq_false (fun q=>nomatch q)
noncomputable def mixKind (prog:Program) (w:World):PySem.KeyKind prog w Key where
  is:=keyIs
  hash:=keyH w
  inj:=fun v a b ha hb=>by
    rcases keyIs_shape ha with ⟨i,t,rfl,rfl⟩ | ⟨x,t,rfl,rfl⟩
    · rcases keyIs_shape hb with ⟨j,u,rfl,e⟩ | ⟨y,u,rfl,e⟩
      · injection e with e1 _;rw[e1]
      · exact nomatch e
    · rcases keyIs_shape hb with ⟨j,u,rfl,e⟩ | ⟨y,u,rfl,e⟩
      · exact nomatch e
      · injection e with e1 _;rw[e1]
  byValue:=fun k v h=>by
    rcases keyIs_shape h with ⟨i,t,rfl,rfl⟩ | ⟨x,t,rfl,rfl⟩ <;> rfl
  pyHash:=fun hv h=>by
    rcases keyIs_shape hv with ⟨i,t,rfl,rfl⟩ | ⟨x,t,rfl,rfl⟩
    · exact wpAny_pyHash_int h
    · exact wpAny_pyHash_str h
  eqBool:=fun hu hv h=>by
    rcases keyIs_shape hu with ⟨i,t,rfl,rfl⟩ | ⟨x,t,rfl,rfl⟩
    · rcases keyIs_shape hv with ⟨j,u,rfl,rfl⟩ | ⟨y,u,rfl,rfl⟩
      · rw[key_ll] at h;exact wpAny_eqBool_int h
      · rw[key_lr] at h;exact SeqAt.EqAt.int_str i t y u _ _ _ _ h
    · rcases keyIs_shape hv with ⟨j,u,rfl,rfl⟩ | ⟨y,u,rfl,rfl⟩
      · rw[key_rl] at h;exact SeqAt.EqAt.str_int x t j u _ _ _ _ h
      · rw[key_rr] at h;exact wpAny_eqBool_str h
  «strs»:=fun k x t v h=>by
    rcases keyIs_shape h with ⟨i,u,rfl,e⟩ | ⟨y,u,rfl,e⟩
    · exact nomatch e
    · injection e with e1 _
      subst e1
      cases v <;> rfl
theorem mixKind_int (prog:Program) (w:World) (i:Int) (t:Tok):(mixKind prog w).is (.inl i) (.int i t)=true:=keyIs_int i t
theorem mixKind_str (prog:Program) (w:World) (x:Str) (t:Tok):(mixKind prog w).is (.inr x) (.str x t)=true:=keyIs_str x t
end L2
namespace L2
open PySem PySem.Spec PyProof.Rows
inductive V where
  | non | bl (b:Bool) | int (i:Int) | str (x:Str) | byt (b:Array UInt8) | flt (b:UInt64) | ref (a:Addr) | ty (n:String)
  deriving DecidableEq
def RelV:V->Value->Prop
  | .non,u=>u=Value.none
  | .bl b,u=>u=Value.bool b
  | .int i,u=>∃ t,u=Value.int i t
  | .str x,u=>∃ t,u=Value.str x t
  | .byt b,u=>∃ t,u=Value.bytes b t
  | .flt b,u=>∃ t,u=Value.float b t
  | .ref a,u=>u=Value.ref a
  | .ty n,u=>u=Value.type n
abbrev Vals:List V->List Value->Prop:=Paired RelV
theorem Vals.length {xs:List V} {us:List Value} (r:Vals xs us):xs.length=us.length:=Paired.length r
theorem Vals.get:∀ {xs:List V} {us:List Value} {i:Nat} {x:V},Vals xs us->xs[i]?=some x->∃ u,us[i]?=some u/\RelV x u
  | _,_,_,_,.nil,e=>by simp at e
  | _,_,0,_,.cons r _,e=>by simp at e;subst e;exact⟨_,rfl,r⟩
  | _,_,i+1,x,.cons _ t,e=>by
    obtain⟨u,h1,h2⟩:=Vals.get (i:=i) (x:=x) t (by simpa using e)
    exact⟨u,by simpa using h1,h2⟩
theorem Vals.set {x:V} {u:Value} (r:RelV x u):∀ {xs:List V} {us:List Value} (i:Nat),Vals xs us->Vals (xs.set i x) (us.set i u)
  | _,_,_,.nil=>.nil
  | _,_,0,.cons _ t=>.cons r t
  | _,_,i+1,.cons q t=>.cons q (Vals.set r i t)
theorem Vals.append:∀ {xs ys:List V} {us ws:List Value},Vals xs us->Vals ys ws->Vals (xs++ys) (us++ws)
  | _,_,_,_,.nil,s=>s
  | _,_,_,_,.cons r t,s=>.cons r (Vals.append t s)
theorem Vals.take:∀ {xs:List V} {us:List Value} (n:Nat),Vals xs us->Vals (xs.take n) (us.take n)
  | _,_,0,_=>.nil
  | _,_,_+1,.nil=>.nil
  | _,_,n+1,.cons r t=>.cons r (Vals.take n t)
theorem Vals.drop:∀ {xs:List V} {us:List Value} (n:Nat),Vals xs us->Vals (xs.drop n) (us.drop n)
  | _,_,0,r=>r
  | _,_,_+1,.nil=>.nil
  | _,_,n+1,.cons _ t=>Vals.drop n t
def RelO:Option V->Option Value->Prop
  | some v,some u=>RelV v u
  | none,none=>True
  | _,_=>False
def KV {κ:Type}:List (κ × V)->List (κ × Value)->Prop:=Paired fun (p:κ × V) (q:κ × Value)=>p.1=q.1/\RelV p.2 q.2
noncomputable def kV:Key->V
  | .inl i=>.int i
  | .inr x=>.str x
inductive HO where
  /-- a list -/
  | lst (xs:List V)
  /-- a tuple (never changes) -/
  | tup (xs:List V)
  /-- a dict whose keys are ints and texts;one whose keys are tuples of ints and texts (the empty one is both) -/
  | dK (kvs:List (Key × V)) | dT (kvs:List (List Key × V))
  /-- a set of ints: its members,its size -/
  | set (S:Int->Bool) (n:Nat)
  /-- an instance of the class at C,its dict at dx,its attributes -/
  | ins (C dx:Addr) (fs:List (Str × V))
  /-- the dict of the instance at x -/
  | own (x:Addr)
  /-- the dict of an exception -/
  | xd (fs:List (Str × V))
  /-- a bound method,f of x -/
  | met (f x:Addr)
  /-- a range object lo,lo+1,.. below hi -/
  | rng (lo hi:Int)
  /-- a thing that is known to the object (the script;a dict while a loop walks it): read,never written while it is so -/
  | frz (o:Obj) (u:HO)
  /-- a code object's table -/
  | tbl (ps:Array Value)
  /-- any other thing,by what is true of its one object (a def of one's own: SetO a S n:=HO.ext fun h=>..) -/
  | ext (φ:Heap->Prop)
abbrev Hp:=Addr->Option HO
def upd (H:Hp) (a:Addr) (o:HO):Hp:=fun b=>if b=a then some o else H b
theorem upd_same {H:Hp} {a:Addr} {o:HO}:upd H a o a=some o:=by unfold upd;rw[if_pos rfl]
theorem upd_ne {H:Hp} {a b:Addr} {o:HO} (h:b ≠ a):upd H a o b=H b:=by unfold upd;rw[if_neg h]
theorem ne_of {H:Hp} {a b:Addr} {o u:HO} (h:H a=some o) (h':H b=some u) (d:o ≠ u):a ≠ b:=by
  intro e;subst e;rw[h] at h';exact d (Option.some.inj h')
theorem ne_of_none {H:Hp} {a b:Addr} {o:HO} (h:H a=some o) (h':H b=none):a ≠ b:=by
  intro e;subst e;rw[h] at h';cases h'
def NoD (h:Heap) (a:Addr):Prop:=∀ o,h.get? a=some o->o.dict=none
theorem NoD.new (h:Heap) (o:Obj) (e:o.dict=none) (f:o.isFreed=false:=by rfl):NoD (h.push o) h.objs.size:=fun u q=>by
  rw[Heap.get?_push_size _ f] at q
  cases q
  exact e
def Pl (xs:List V):Prop:=∃ x ∈ xs,∀ a,x ≠ .ref a
def TpN (xs:List V) (h:Heap) (a:Addr):Prop:=Pl xs\/NoD h a
theorem TpN.new {xs:List V} (h:Heap) (o:Obj) (e:o.dict=none) (f:o.isFreed=false:=by rfl):TpN xs (h.push o) h.objs.size:=.inr (NoD.new h o e f)
theorem TpN.to {xs:List V} {h h':Heap} {a:Addr} {o:Obj} (x:TpN xs h a) (e:h.get? a=some o) (e':h'.get? a=some o):TpN xs h' a:=x.imp_right fun k u q=>by
  rw[e'] at q
  cases q
  exact k o e
section
variable (P:Program) (w:World)
def ObjOk (H:Hp) (h:Heap) (a:Addr):HO->Prop
  | .lst xs=>xs.length <= sizeLine/\∃ (its:List Value) (n:Nat),Vals xs its/\h.get? a=some { cls:=.type "list",data:=.seq its.toArray n }
  | .tup xs=>(xs.length <= sizeLine/\TpN xs h a)/\∃ its:List Value,Vals xs its/\IsTup h a its.toArray
  | .dK kvs=>kvs.length <= sizeLine/\(a == sysModules)=false/\∃ vs,KV kvs vs/\h.DictOf (mixKind P w) a vs
  | .dT kvs=>kvs.length <= sizeLine/\(a == sysModules)=false/\∃ xs:List (List Key × Addr × Value),
      Paired (fun (p:List Key × V) (q:List Key × Addr × Value)=>p.1=q.1/\H q.2.1=some (.tup (p.1.map kV))/\RelV p.2 q.2.2) kvs xs /\
      ∃ o es ep,h.get? a=some o/\o.ExactDict/\o.data=.dict es ep/\es.toList=xs.map (entryOfKey (tupleKind (mixKind P w)))/\(xs.map (·.1)).Nodup
  | .set S n=>h.SetOf (intKind P w) a S n
  | .ins C dx fs=>H dx=some (.own a)/\fs.length <= 1000/\dx ≠ a/\h.get? a=some (PySem.W.instObj C dx) /\
      ∃ mA,h.Ns1 dx mA/\(∀ f,RelO (fs.lookup f) (mA f))/\PySem.Within mA (fs.map (·.1))
  | .own _=>∃ o,h.get? a=some o
  | .xd fs=>∃ mA,h.Ns1 a mA/\∀ f,RelO (fs.lookup f) (mA f)
  | .rng lo hi=>∃ t u v,h.get? a=some { cls:=.type "range",data:=.fields #[.int lo t,.int hi u,.int 1 v] }
  | .frz o u=>h.get? a=some o/\ObjOk H h a u
  | .tbl ps=>h.get? a=some { cls:=.none,data:=.fields ps }
  | .met f x=>h.get? a=some (PySem.W.methodObj (.ref f) (.ref x))
  | .ext φ=>φ h/\(∃ o,h.get? a=some o)/\∀ h1 h2:Heap,φ h1->(∀ o,h1.get? a=some o->h2.get? a=some o)->φ h2
def HOk (H:Hp) (h:Heap):Prop:=∀ a o,H a=some o->ObjOk P w H h a o
end
section
variable {P:Program} {w:World} {H H':Hp} {h h':Heap} {a:Addr} {o:HO}
theorem ObjOk.lt (x:ObjOk P w H h a o):a < h.objs.size:=by
  cases o with
  | lst xs=>obtain⟨_,_,_,_,e⟩:=x;exact Heap.lt_size e
  | tup xs=>obtain⟨_,_,_,p⟩:=x;exact p.lt
  | dK kvs=>obtain⟨_,_,_,_,o,_,_,e,_⟩:=x;exact Heap.lt_size e
  | dT kvs=>obtain⟨_,_,_,_,o,_,_,e,_⟩:=x;exact Heap.lt_size e
  | set S n=>obtain⟨o,_,_,_,e,_⟩:=x;exact Heap.lt_size e
  | ins C dx fs=>obtain⟨_,_,_,e,_⟩:=x;exact Heap.lt_size e
  | own y=>obtain⟨_,e⟩:=x;exact Heap.lt_size e
  | xd fs=>obtain⟨_,⟨_,_,_,e,_⟩,_⟩:=x;exact Heap.lt_size e
  | rng lo hi=>obtain⟨_,_,_,e⟩:=x;exact Heap.lt_size e
  | frz ob u=>obtain⟨e,_⟩:=x;exact Heap.lt_size e
  | tbl ps=>exact Heap.lt_size (show h.get? a=some _ from x)
  | met f y=>exact Heap.lt_size (show h.get? a=some _ from x)
  | ext φ=>obtain⟨_,⟨_,e⟩,_⟩:=x;exact Heap.lt_size e
theorem Paired.mapP {α β:Type} {F G:α->β->Prop}:∀ {l₁:List α} {l₂:List β},Paired F l₁ l₂->(∀ a b,F a b->G a b)->Paired G l₁ l₂
  | _,_,.nil,_=>.nil
  | _,_,.cons r t,f=>.cons (f _ _ r) (Paired.mapP t f)
theorem ObjOk.stay (x:ObjOk P w H h a o) (k:∀ b u,(b=a\/H b=some (.own a))->h.get? b=some u->h'.get? b=some u)
    (ho:∀ b,H b=some (.own a)->H' b=some (.own a)) (ht:∀ b xs,H b=some (.tup xs)->H' b=some (.tup xs)):ObjOk P w H' h' a o:=by
  induction o with
  | lst xs=>obtain⟨z,its,n,r,e⟩:=x;exact⟨z,its,n,r,k _ _ (.inl rfl) e⟩
  | tup xs=>obtain⟨z,its,r,ob,e,c⟩:=x;exact⟨⟨z.1,z.2.to e (k _ _ (.inl rfl) e)⟩,its,r,ob,k _ _ (.inl rfl) e,c⟩
  | dK kvs=>obtain⟨z,y,vs,r,ob,es,ep,e,c⟩:=x;exact⟨z,y,vs,r,ob,es,ep,k _ _ (.inl rfl) e,c⟩
  | dT kvs=>
    obtain⟨z,y,xs,r,ob,es,ep,e,c⟩:=x
    exact⟨z,y,xs,Paired.mapP r fun p q z=>⟨z.1,ht _ _ z.2.1,z.2.2⟩,ob,es,ep,k _ _ (.inl rfl) e,c⟩
  | set S n=>obtain⟨ob,es,ep,t,e,c⟩:=x;exact⟨ob,es,ep,t,k _ _ (.inl rfl) e,c⟩
  | ins C dx fs=>
    obtain⟨d,z,ne,e,mA,⟨od,es,ep,e2,c⟩,r⟩:=x
    exact⟨ho _ d,z,ne,k _ _ (.inl rfl) e,mA,⟨od,es,ep,k _ _ (.inr d) e2,c⟩,r⟩
  | own y=>obtain⟨ob,e⟩:=x;exact⟨ob,k _ _ (.inl rfl) e⟩
  | xd fs=>obtain⟨mA,⟨od,es,ep,e,c⟩,r⟩:=x;exact⟨mA,⟨od,es,ep,k _ _ (.inl rfl) e,c⟩,r⟩
  | rng lo hi=>obtain⟨t,u,v,e⟩:=x;exact⟨t,u,v,k _ _ (.inl rfl) e⟩
  | frz ob u ih=>obtain⟨e,q⟩:=x;exact⟨k _ _ (.inl rfl) e,ih q⟩
  | tbl ps=>
    have e:h.get? a=some { cls:=.none,data:=.fields ps }:=x
    show h'.get? a=some { cls:=.none,data:=.fields ps }
    exact k a _ (.inl rfl) e
  | met f y=>
    have e:h.get? a=some (PySem.W.methodObj (.ref f) (.ref y)):=x
    show h'.get? a=some (PySem.W.methodObj (.ref f) (.ref y))
    exact k a _ (.inl rfl) e
  | ext φ=>obtain⟨p,⟨o,e⟩,st⟩:=x;exact⟨st _ _ p fun o q=>k _ _ (.inl rfl) q,⟨o,k _ _ (.inl rfl) e⟩,st⟩
theorem HOk.lt (x:HOk P w H h) (e:H a=some o):a < h.objs.size:=(x a o e).lt
theorem HOk.fresh (x:HOk P w H h) (e:h.objs.size <= a):H a=none:=by
  cases q:H a with
  | none=>rfl
  | some u=>exact absurd (Nat.lt_of_lt_of_le (x.lt q) e) (Nat.lt_irrefl _)
theorem HOk.kept (x:HOk P w H h) (k:∀ b u,h.get? b=some u->h'.get? b=some u):HOk P w H h':=fun a o e=>
  (x a o e).stay (fun b u _ q=>k b u q) (fun _ q=>q) fun _ _ q=>q
theorem HOk.laid (x:HOk P w H h) (k:∀ b u,h.get? b=some u->h'.get? b=some u) (hp:h.objs.size <= a) (new:ObjOk P w (upd H a o) h' a o):HOk P w (upd H a o) h':=fun b u e=>by
  have hn:=x.fresh hp
  by_cases hb:b=a
  · subst hb;rw[upd_same] at e;cases e;exact new
  · rw[upd_ne hb] at e
    exact (x b u e).stay (fun c v _ q=>k c v q) (fun c q=>by rw[upd_ne (ne_of_none q hn)];exact q) fun c xs q=>by rw[upd_ne (ne_of_none q hn)];exact q
end
def Rd (H:Hp) (a:Addr) (u:HO):Prop:=H a=some u\/∃ o,H a=some (.frz o u)
theorem Rd.ok {P:Program} {w:World} {H:Hp} {h:Heap} {a:Addr} {u:HO} (r:Rd H a u) (x:HOk P w H h):ObjOk P w H h a u:=by
  rcases r with r | ⟨o,r⟩
  · exact x a u r
  · obtain⟨_,q⟩:=x a _ r
    exact q
def Mut:Option HO->Prop
  | some (.lst _)=>True
  | some (.dK _)=>True
  | some (.dT _)=>True
  | some (.set _ _)=>True
  | some (.ins _ _ _)=>True
  | some (.ext _)=>True
  | _=>False
section
variable {P:Program} {w:World} {H:Hp} {h h':Heap} {x e:Addr} {o':HO}
theorem HOk.write (ok:HOk P w H h) (mu:Mut (H x)) (he:e=x\/H e=some (.own x)) (k:∀ b u,b ≠ e->h.get? b=some u->h'.get? b=some u) (heo:∃ u,h'.get? e=some u)
    (new:ObjOk P w (upd H x o') h' x o'):HOk P w (upd H x o') h':=fun b u q=>by
  have nown:∀ c y,H c=some (.own y)->c ≠ x:=fun c y r z=>by subst z;rw[r] at mu;exact mu
  have ntup:∀ c xs,H c=some (.tup xs)->c ≠ x:=fun c xs r z=>by subst z;rw[r] at mu;exact mu
  by_cases hb:b=x
  · subst hb;rw[upd_same] at q;cases q;exact new
  · rw[upd_ne hb] at q
    by_cases hbe:b=e
    · have q':H b=some (.own x):=by
        rcases he with z | z
        · exact absurd (hbe.trans z) hb
        · rw[hbe];exact z
      rw[q] at q';cases q'
      obtain⟨v,hv⟩:=heo
      exact⟨v,by rw[hbe];exact hv⟩
    · refine (ok b u q).stay (fun c v hc r=>k c v ?_ r) (fun c r=>by rw[upd_ne (nown c b r)];exact r) fun c xs r=>by rw[upd_ne (ntup c xs r)];exact r
      rcases hc with rfl | hc
      · exact hbe
      · rintro rfl
        rcases he with z | z
        · exact nown c b hc z
        · rw[hc] at z;cases z;exact hb rfl
end
structure Un (fs ex:List Addr) (H H':Hp) (h h':Heap):Prop where
  keep:∀ b o,h.get? b=some o->H b=none->b ∉ fs->b ∉ ex->h'.get? b=some o
  slot:∀ b o,h.get? b=some o->H b=none->b ∈ fs->b ∉ ex->∃ sl,h'.get? b=some { o with slots:=sl }
  free:∀ b o,h.get? b=some o->H b=none->b ∉ ex->H' b=none
  there:∀ b o,h.get? b=some o->b ∉ ex->∃ o',h'.get? b=some o'
  tups:∀ b xs,H b=some (.tup xs)->H' b=some (.tup xs)
  frzs:∀ b o u,H b=some (.frz o u)->H' b=some (.frz o u)
  tbls:∀ b ps,H b=some (.tbl ps)->∃ more,H' b=some (.tbl (ps++more))
section
variable {fs fs' ex ex':List Addr} {H H1 H2:Hp} {h h1 h2 h':Heap} {a x e:Addr} {o:HO}
theorem Un.any (u:Un fs ex H H1 h h1) {b:Addr} {ob:Obj} (q:h.get? b=some ob) (n:H b=none) (hx:b ∉ ex):∃ sl,h1.get? b=some { ob with slots:=sl }:=by
  by_cases hb:b ∈ fs
  · exact u.slot b ob q n hb hx
  · exact⟨ob.slots,u.keep b ob q n hb hx⟩
theorem Un.kept (k:∀ b u,h.get? b=some u->h'.get? b=some u):Un fs ex H H h h':=
  ⟨fun b ob q _ _ _=>k b ob q,fun b ob q _ _ _=>⟨ob.slots,k b ob q⟩,fun _ _ _ n _=>n,fun b ob q _=>⟨ob,k b ob q⟩,fun _ _ q=>q,fun _ _ _ q=>q,fun _ ps q=>⟨#[],by rw[q];simp⟩⟩
theorem Un.refl:Un fs ex H H h h:=Un.kept fun _ _ q=>q
theorem Un.laid (k:∀ b u,h.get? b=some u->h'.get? b=some u) (hp:h.objs.size <= a) (hn:H a=none):Un fs ex H (upd H a o) h h' where
  keep:=fun b u q _ _ _=>k b u q
  slot:=fun b u q _ _ _=>⟨u.slots,k b u q⟩
  free:=fun b u q n _=>by rw[upd_ne (Nat.ne_of_lt (Nat.lt_of_lt_of_le (Heap.lt_size q) hp))];exact n
  there:=fun b u q _=>⟨u,k b u q⟩
  tups:=fun b xs q=>by rw[upd_ne (ne_of_none q hn)];exact q
  frzs:=fun b u xs q=>by rw[upd_ne (ne_of_none q hn)];exact q
  tbls:=fun b ps q=>⟨#[],by rw[upd_ne (ne_of_none q hn),q];simp⟩
theorem Un.write (mu:Mut (H x)) (he:e=x\/H e=some (.own x)) (k:∀ b u,b ≠ e->h.get? b=some u->h'.get? b=some u) (heo:∃ u,h'.get? e=some u):Un fs ex H (upd H x o) h h':=by
  have hx:∀ b,H b=none->b ≠ x:=fun b n z=>by subst z;rw[n] at mu;exact mu
  have hb:∀ b,H b=none->b ≠ e:=fun b n z=>by
    subst z
    rcases he with r | r
    · exact hx b n r
    · rw[n] at r;cases r
  have hm:∀ b u,H b=some u->¬ Mut (some u)->b ≠ x:=fun b u q nm z=>by subst z;rw[q] at mu;exact nm mu
  refine⟨fun b u q n _ _=>k b u (hb b n) q,fun b u q n _ _=>⟨u.slots,k b u (hb b n) q⟩,fun b u q n _=>by rw[upd_ne (hx b n)];exact n,fun b u q _=>?_,
    fun b xs q=>by rw[upd_ne (hm b _ q fun z=>z)];exact q,fun b u xs q=>by rw[upd_ne (hm b _ q fun z=>z)];exact q,fun b ps q=>⟨#[],by rw[upd_ne (hm b _ q fun z=>z),q];simp⟩⟩
  by_cases hbe:b=e
  · subst hbe;exact heo
  · exact⟨u,k b u hbe q⟩
end
noncomputable def trk (h:Heap) (H:Hp):List Addr:=(List.range h.objs.size).filter fun a=>(H a).isSome
noncomputable def hidT (h:Heap) (H:Hp):Heap:=PySem.W.hideAll h (trk h H)
theorem hidT_size (h:Heap) (H:Hp):(hidT h H).objs.size=h.objs.size:=PySem.W.hideAll_size _ _
theorem hidT_get {h:Heap} {H:Hp} {b:Addr} {o:Obj} (e:h.get? b=some o) (n:H b=none):(hidT h H).get? b=some o:=
  PySem.W.hideAll_get _ e fun hm=>by
    have q:(H b).isSome=true:=(List.mem_filter.mp hm).2
    rw[n] at q;simp at q
theorem of_hidT {h:Heap} {H:Hp} {b:Addr} {o:Obj} (e:(hidT h H).get? b=some o):h.get? b=some o/\H b=none:=by
  have e':h.get? b=some o:=PySem.W.of_hideAll (trk h H) e
  refine⟨e',?_⟩
  cases q:H b with
  | none=>rfl
  | some x=>
    have hm:b ∈ trk h H:=List.mem_filter.mpr ⟨List.mem_range.mpr (Heap.lt_size e'),by simp[q]⟩
    have z:(hidT h H).get? b=none:=PySem.W.hideAll_none (trk h H) hm
    rw[z] at e;cases e
end L2
namespace L2
open PySem PySem.Spec PyProof.Rows
structure Mod (K:PySem.W.Frag) (mg:Str->Option Value) (base:Heap):Prop where
  kin:K.In base
  glob:base.Ns mainGlobals mg
  blt:∃ mb,base.Ns builtinsNs mb/\∀ x:Str,x ≠ "__name__"->mb x=bootBuiltins x
  nolimit:base.NoLimit
structure Cx where
  prog:Program
  w:World
  K:PySem.W.Frag
  mg:Str->Option Value
  base:Heap
  A:Around
  N:List Str
  s₀:Shared
  H₀:Hp
  env:Env
  outer:List Env
  stack:List Env
  ex:List Addr
  fn:Str->Bool
  calm:Bool
  pn:List (Addr × Obj)
  xe:Value->Shared->Prop
noncomputable def frs (l:List Env):List Addr:=l.filterMap (·.frame)
abbrev Cx.fs (X:Cx):List Addr:=frs X.outer
def Vis (sc:Scope) (x:Str):Prop:=sc.names.lookup x=some .local\/sc.names.lookup x=some .cell\/sc.names.lookup x=some .free
def Loc (sc:Scope) (x:Str):Prop:=sc.names.lookup x=some .local\/sc.names.lookup x=some .cell
def Look (env:Env) (h:Heap) (m:Str->Option Value) (x:Str) (u:Value):Prop:=
  (env.kindOf x=some .local/\m x=some u)\/((env.kindOf x=some .cell\/env.kindOf x=some .free)/\∃ c,env.cells.lookup x=some c/\h.IsCell c (some u))
structure Cx.Ok (X:Cx):Prop where
  mod:Mod X.K X.mg X.base
  kind:X.env.scope.kind=.function
  glob:X.env.globals=mainGlobals
  blt:X.env.builtins=builtinsNs
  above:X.s₀.heap.objs.size <= X.env.locals
  inj:∀ x y c,X.env.cells.lookup x=some c->X.env.cells.lookup y=some c->x=y
  has:∀ x,(X.env.kindOf x=some .cell\/X.env.kindOf x=some .free)->∃ c,X.env.cells.lookup x=some c
  cab:∀ x c,X.fn x=true->X.env.cells.lookup x=some c->X.s₀.heap.objs.size <= c
  hd:X.calm=true->X.A.handled=none
  frames:X.A.frames=some X.stack
  stk:X.stack=X.outer\/(X.stack=X.env::X.outer/\X.env.frame=some X.env.locals)
  exf:∀ b ∈ X.ex,b ≠ X.env.locals/\∀ x c,X.env.cells.lookup x=some c->c ≠ b
  bs:∀ b o,X.base.get? b=some o->X.s₀.heap.get? b=some o/\X.H₀ b=none
  bsz:X.base.objs.size <= X.s₀.heap.objs.size
  noex:∀ b o,X.base.get? b=some o->b ∉ X.ex
  exfs:∀ b ∈ X.ex,b ∉ X.fs
  funs:X.s₀.heap.FunFrames X.base X.outer
  frf:∀ b ∈ X.fs,X.H₀ b=none
structure Inv (X:Cx) (pins:List (Addr × Obj)) (σ:List (Option V)) (H:Hp) (s:Shared):Prop where
  ok:X.Ok
  os:s.os=X.s₀.os
  bare:AllBare s.gens
  base:Un X.fs X.ex X.H₀ H X.s₀.heap s.heap
  loc:∃ m,s.heap.Ns X.env.locals m/\∀ (i:Nat) (x:Str) (v:V),X.N[i]?=some x->σ[i]?=some (some v)->Vis X.env.scope x->∃ u,RelV v u/\Look X.env s.heap m x u
  cell:∀ x c,X.env.cells.lookup x=some c->∃ v,s.heap.IsCell c v
  free:H X.env.locals=none
  freeC:∀ x c,X.env.cells.lookup x=some c->H c=none
  pin:∀ p ∈ X.pn++pins,s.heap.get? p.1=some p.2/\H p.1=none/\p.1 ≠ X.env.locals/\p.1 ∉ X.fs/\∀ v,p.2.data ≠ .cell v
  hok:HOk X.prog X.w H s.heap
  len:σ.length=X.N.length
section
variable {X:Cx} {pins:List (Addr × Obj)} {σ:List (Option V)} {H H':Hp} {s:Shared} {h':Heap}
theorem Cx.Ok.nofr (ok:X.Ok) {b:Addr} {o:Obj} (e:X.base.get? b=some o):b ∉ X.fs:=fun hb=>by
  have:=(ok.funs.mem hb).1
  rw[e] at this;cases this
theorem Inv.bs (I:Inv X pins σ H s):∀ b o,X.base.get? b=some o->s.heap.get? b=some o/\H b=none:=fun b o e=>
  ⟨I.base.keep b o (I.ok.bs b o e).1 (I.ok.bs b o e).2 (I.ok.nofr e) (I.ok.noex b o e),I.base.free b o (I.ok.bs b o e).1 (I.ok.bs b o e).2 (I.ok.noex b o e)⟩
theorem Inv.bk (I:Inv X pins σ H s):∀ b o,X.base.get? b=some o->s.heap.get? b=some o:=fun b o e=>(I.bs b o e).1
theorem Inv.mod (I:Inv X pins σ H s):Mod X.K X.mg X.base:=I.ok.mod
theorem Inv.kIn (I:Inv X pins σ H s):X.K.In s.heap:=I.ok.mod.kin.keeps I.bk
theorem Inv.lt (I:Inv X pins σ H s):X.env.locals < s.heap.objs.size:=let ⟨_,hn,_⟩:=I.loc;hn.lt
theorem Inv.sz (I:Inv X pins σ H s):X.s₀.heap.objs.size <= s.heap.objs.size:=Nat.le_trans I.ok.above (Nat.le_of_lt I.lt)
theorem Inv.nofs (I:Inv X pins σ H s) {a:Addr} (h:s.heap.objs.size <= a):a ∉ X.fs:=fun hb=>by
  obtain⟨_,o,ho,_⟩:=I.ok.funs.mem hb
  exact absurd (Nat.lt_of_lt_of_le (Heap.lt_size ho) (Nat.le_trans I.sz h)) (Nat.lt_irrefl _)
theorem Inv.cne (I:Inv X pins σ H s):∀ x c,X.env.cells.lookup x=some c->c ≠ X.env.locals:=fun x c e z=>by
  obtain⟨v,o,ho,hd⟩:=I.cell x c e
  obtain⟨m,⟨o',es,ep,ho',hd',_⟩,_⟩:=I.loc
  rw[z,ho'] at ho;cases ho;rw[hd'] at hd;cases hd
theorem Inv.funs (I:Inv X pins σ H s):s.heap.FunFrames X.base X.outer:=by
  have all:∀ (l:List Env),(∀ b ∈ frs l,b ∈ X.fs)->X.s₀.heap.FunFrames X.base l->s.heap.FunFrames X.base l:=by
    intro l
    induction l with
    | nil=>intro _ _;trivial
    | cons env r ih=>
      intro hs hl
      obtain⟨hk,⟨L,o,hf,hn,ho,hd⟩,hr⟩:=hl
      have hL:L ∈ X.fs:=hs L (by unfold frs;rw[List.filterMap_cons,hf];exact List.mem_cons_self)
      obtain⟨sl,e⟩:=I.base.slot L o ho (I.ok.frf L hL) hL fun z=>I.ok.exfs L z hL
      exact⟨hk,⟨L,_,hf,hn,e,hd⟩,ih (fun b hb=>hs b (by unfold frs;rw[List.filterMap_cons,hf];exact List.mem_cons_of_mem _ hb)) hr⟩
  exact all X.outer (fun _ hb=>hb) I.ok.funs
theorem Inv.stack (I:Inv X pins σ H s):s.heap.FunFrames X.base X.stack:=by
  rcases I.ok.stk with e | ⟨e,hf⟩
  · rw[e];exact I.funs
  · rw[e]
    obtain⟨m,hn,_⟩:=I.loc
    refine .cons (by rw[I.ok.kind];decide) hf hn ?_ I.funs
    exact Heap.get?_none_of_le (Nat.le_trans I.ok.bsz I.ok.above)
theorem Inv.stkSub (I:Inv X pins σ H s):∀ b ∈ frs X.stack,b ∈ X.env.locals::X.fs:=fun b hb=>by
  rcases I.ok.stk with e | ⟨e,hf⟩
  · rw[e] at hb;exact List.mem_cons_of_mem _ hb
  · rw[e] at hb
    unfold frs at hb
    rw[List.filterMap_cons,hf] at hb
    exact hb
theorem Inv.stkFree (I:Inv X pins σ H s):∀ b ∈ frs X.stack,H b=none:=fun b hb=>by
  rcases List.mem_cons.mp (I.stkSub b hb) with e | hb
  · rw[e];exact I.free
  · obtain⟨_,o,ho,_⟩:=I.ok.funs.mem hb
    exact I.base.free b o ho (I.ok.frf b hb) fun z=>I.ok.exfs b z hb
theorem Inv.step {g':Array GenState} {t':Nat} {d':Drawn} {ch:List Addr} (I:Inv X pins σ H s)
    (hch:∀ b ∈ ch,(b ∈ X.ex\/X.s₀.heap.objs.size <= b)/\b ≠ X.env.locals/\(∀ x c,X.env.cells.lookup x=some c->c ≠ b)/\∀ p ∈ X.pn++pins,p.1 ≠ b)
    (keep:∀ b o,b ≠ X.env.locals->b ∉ X.fs->b ∉ ch->s.heap.get? b=some o->H b=none->h'.get? b=some o)
    (slot:∀ b o,b ≠ X.env.locals->b ∈ X.fs->b ∉ ch->s.heap.get? b=some o->H b=none->∃ sl,h'.get? b=some { o with slots:=sl }) (free:∀ b o,b ∉ ch->s.heap.get? b=some o->H b=none->H' b=none)
    (there:∀ b o,b ∉ ch->s.heap.get? b=some o->∃ o',h'.get? b=some o')
    (tups:∀ b xs,H b=some (.tup xs)->H' b=some (.tup xs)) (frzs:∀ b o u,H b=some (.frz o u)->H' b=some (.frz o u)) (tbls:∀ b ps,H b=some (.tbl ps)->∃ more,H' b=some (.tbl (ps++more)))
    (ns:∀ m,s.heap.Ns X.env.locals m->h'.Ns X.env.locals m) (hok:HOk X.prog X.w H' h') (hg:AllBare g') :
    Inv X pins σ H' { s with heap:=h',gens:=g',drawn:=d',toks:=t' }:=by
  have neL:∀ b o,X.s₀.heap.get? b=some o->b ≠ X.env.locals:=fun b o e=>Nat.ne_of_lt (Nat.lt_of_lt_of_le (Heap.lt_size e) I.ok.above)
  have neC:∀ b o,X.s₀.heap.get? b=some o->b ∉ X.ex->b ∉ ch:=fun b o e hx hb=>by
    rcases (hch b hb).1 with z | z
    · exact hx z
    · exact absurd (Nat.lt_of_lt_of_le (Heap.lt_size e) z) (Nat.lt_irrefl _)
  have cellK:∀ x c,X.env.cells.lookup x=some c->∀ v,s.heap.IsCell c v->h'.IsCell c v:=fun x c e v ⟨o,ho,hd⟩=>by
    have nch:c ∉ ch:=fun z=>(hch c z).2.2.1 x c e rfl
    by_cases hc:c ∈ X.fs
    · obtain⟨sl,q⟩:=slot c o (I.cne x c e) hc nch ho (I.freeC x c e)
      exact⟨_,q,hd⟩
    · exact⟨o,keep c o (I.cne x c e) hc nch ho (I.freeC x c e),hd⟩
  refine⟨I.ok,I.os,hg,⟨fun b o e n hb hx=>?_,fun b o e n hb hx=>?_,fun b o e n hx=>?_,fun b o e hx=>?_,fun b xs e=>tups b xs (I.base.tups b xs e),fun b o xs e=>frzs b o xs (I.base.frzs b o xs e),fun b ps e=>?_⟩,?_,fun x c e=>?_,?_,fun x c e=>?_,fun p hp=>?_,hok,I.len⟩
  · exact keep b o (neL b o e) hb (neC b o e hx) (I.base.keep b o e n hb hx) (I.base.free b o e n hx)
  · obtain⟨sl,e1⟩:=I.base.slot b o e n hb hx
    obtain⟨sl',e2⟩:=slot b _ (neL b o e) hb (neC b o e hx) e1 (I.base.free b o e n hx)
    exact⟨sl',e2⟩
  · obtain⟨o',e1⟩:=I.base.there b o e hx
    exact free b o' (neC b o e hx) e1 (I.base.free b o e n hx)
  · obtain⟨o',e1⟩:=I.base.there b o e hx
    exact there b o' (neC b o e hx) e1
  · obtain⟨m1,e1⟩:=I.base.tbls b ps e
    obtain⟨m2,e2⟩:=tbls b _ e1
    exact⟨m1++m2,by rw[e2,Array.append_assoc]⟩
  · obtain⟨m,hn,hl⟩:=I.loc
    refine⟨m,ns m hn,fun i x v e1 e2 e3=>?_⟩
    obtain⟨u,r,l⟩:=hl i x v e1 e2 e3
    refine⟨u,r,?_⟩
    rcases l with l | ⟨k,c,e,z⟩
    · exact .inl l
    · exact .inr ⟨k,c,e,cellK x c e _ z⟩
  · obtain⟨v,z⟩:=I.cell x c e
    exact⟨v,cellK x c e v z⟩
  · obtain⟨m,⟨o,_,_,ho,_⟩,_⟩:=I.loc
    exact free _ o (fun z=>(hch _ z).2.1 rfl) ho I.free
  · obtain⟨v,o,ho,hd⟩:=I.cell x c e
    exact free c o (fun z=>(hch c z).2.2.1 x c e rfl) ho (I.freeC x c e)
  · obtain⟨e,n,ne,nf,d⟩:=I.pin p hp
    have nch:p.1 ∉ ch:=fun z=>(hch p.1 z).2.2.2 p hp rfl
    exact⟨keep p.1 p.2 ne nf nch e n,free p.1 p.2 nch e n,ne,nf,d⟩
theorem Inv.un {t':Nat} (I:Inv X pins σ H s) (u:Un X.fs [] H H' s.heap h') (hok:HOk X.prog X.w H' h'):Inv X pins σ H' { s with heap:=h',toks:=t' }:=by
  obtain⟨m,⟨o,es,ep,ho,r⟩,_⟩:=id I.loc
  obtain⟨sl,hL⟩:=u.any ho I.free (by simp)
  exact I.step (g':=s.gens) (d':=s.drawn) (ch:=[]) (fun _ z=>nomatch z) (fun b o _ hb _ e n=>u.keep b o e n hb (by simp)) (fun b o _ hb _ e n=>u.slot b o e n hb (by simp)) (fun b o _ e n=>u.free b o e n (by simp)) (fun b o _ e=>u.there b o e (by simp)) u.tups u.frzs u.tbls (fun m' hm=>by
    obtain⟨o',es',ep',ho',r'⟩:=hm
    rw[ho] at ho';cases ho'
    exact⟨_,es',ep',hL,r'⟩) hok I.bare
theorem Inv.call {g':Array GenState} {t':Nat} {d':Drawn} {ch:List Addr} (I:Inv X pins σ H s) (u:Un (frs X.stack) ch H H' s.heap h') (hok:HOk X.prog X.w H' h') (hg:AllBare g')
    (hch:∀ b ∈ ch,(b ∈ X.ex\/X.s₀.heap.objs.size <= b)/\b ≠ X.env.locals/\(∀ x c,X.env.cells.lookup x=some c->c ≠ b)/\∀ p ∈ X.pn++pins,p.1 ≠ b) :
    Inv X pins σ H' { s with heap:=h',gens:=g',drawn:=d',toks:=t' }:=by
  obtain⟨m,⟨o,es,ep,ho,r⟩,_⟩:=id I.loc
  obtain⟨sl,hL⟩:=u.any ho I.free fun z=>(hch _ z).2.1 rfl
  exact I.step (ch:=ch) hch (fun b o hL hb hc e n=>u.keep b o e n (fun z=>(List.mem_cons.mp (I.stkSub b z)).elim hL hb) hc) (fun b o _ _ hc e n=>u.any e n hc) (fun b o hc e n=>u.free b o e n hc) (fun b o hc e=>u.there b o e hc) u.tups u.frzs u.tbls (fun m' hm=>by
    obtain⟨o',es',ep',ho',r'⟩:=hm
    rw[ho] at ho';cases ho'
    exact⟨_,es',ep',hL,r'⟩) hok hg
theorem Inv.turned {t':Nat} {it:Addr} (I:Inv X pins σ H s) (k:∀ b o,b ≠ it->s.heap.get? b=some o->h'.get? b=some o) (hn:H it=none) (hL:it ≠ X.env.locals)
    (h1:it ∈ X.ex\/X.s₀.heap.objs.size <= it) (h2:∀ x c,X.env.cells.lookup x=some c->c ≠ it) (h3:∀ p ∈ X.pn++pins,p.1 ≠ it):Inv X pins σ H { s with heap:=h',toks:=t' }:=by
  have nit:∀ b u,H b=some u->b ≠ it:=fun b u e z=>by rw[z,hn] at e;cases e
  refine I.step (g':=s.gens) (d':=s.drawn) (ch:=[it]) (fun b hb=>?_) (fun b o _ _ hc e _=>k b o (fun z=>hc (by simp[z])) e) (fun b o _ _ hc e _=>⟨o.slots,k b o (fun z=>hc (by simp[z])) e⟩) (fun _ _ _ _ n=>n)
    (fun b o hc e=>⟨o,k b o (fun z=>hc (by simp[z])) e⟩) (fun _ _ e=>e) (fun _ _ _ e=>e) (fun b ps e=>⟨#[],by rw[e];simp⟩) (fun m hm=>?_) (fun b u e=>?_) I.bare
  · have e:b=it:=by simpa using hb
    subst e
    exact⟨h1,hL,h2,h3⟩
  · obtain⟨o,es,ep,ho,r⟩:=hm
    exact⟨o,es,ep,k _ o (Ne.symm hL) ho,r⟩
  · refine (I.hok b u e).stay (fun c v hc q=>k c v ?_ q) (fun _ q=>q) fun _ _ q=>q
    rcases hc with z | z
    · rw[z];exact nit b u e
    · exact nit c _ z
theorem Inv.tok (I:Inv X pins σ H s) (t:Nat):Inv X pins σ H { s with toks:=t }:=I.un (h':=s.heap) (t':=t) Un.refl I.hok
theorem Inv.kept {t':Nat} (I:Inv X pins σ H s) (k:∀ b u,s.heap.get? b=some u->h'.get? b=some u):Inv X pins σ H { s with heap:=h',toks:=t' }:=I.un (Un.kept k) (I.hok.kept k)
theorem Inv.laid {a:Addr} {o:HO} {t':Nat} (I:Inv X pins σ H s) (k:∀ b u,s.heap.get? b=some u->h'.get? b=some u) (hp:s.heap.objs.size <= a) (new:ObjOk X.prog X.w (upd H a o) h' a o) :
    Inv X pins σ (upd H a o) { s with heap:=h',toks:=t' }:=I.un (Un.laid k hp (I.hok.fresh hp)) (I.hok.laid k hp new)
theorem Inv.write {x e:Addr} {o:HO} {t':Nat} (I:Inv X pins σ H s) (mu:Mut (H x)) (he:e=x\/H e=some (.own x)) (k:∀ b u,b ≠ e->s.heap.get? b=some u->h'.get? b=some u) (heo:∃ u,h'.get? e=some u)
    (new:ObjOk X.prog X.w (upd H x o) h' x o):Inv X pins σ (upd H x o) { s with heap:=h',toks:=t' }:=I.un (Un.write mu he k heo) (I.hok.write mu he k heo new)
theorem Inv.weak {σ':List (Option V)} (I:Inv X pins σ H s) (hl:σ'.length=σ.length) (w:∀ (i:Nat) v,σ'[i]?=some (some v)->σ[i]?=some (some v)):Inv X pins σ' H s:=
  ⟨I.ok,I.os,I.bare,I.base,let ⟨m,hn,hl'⟩:=I.loc;⟨m,hn,fun i x v e1 e2 e3=>hl' i x v e1 (w i v e2) e3⟩,I.cell,I.free,I.freeC,I.pin,I.hok,hl.trans I.len⟩
theorem Inv.pins_of {pins':List (Addr × Obj)} (I:Inv X pins σ H s) (h:∀ p ∈ pins',s.heap.get? p.1=some p.2/\H p.1=none/\p.1 ≠ X.env.locals/\p.1 ∉ X.fs/\∀ v,p.2.data ≠ .cell v):Inv X pins' σ H s:=
  ⟨I.ok,I.os,I.bare,I.base,I.loc,I.cell,I.free,I.freeC,fun p hp=>(List.mem_append.mp hp).elim (fun z=>I.pin p (List.mem_append_left _ z)) (h p),I.hok,I.len⟩
theorem nodup_ix {N:List Str} (hN:N.Nodup) {i j:Nat} {x:Str} (a:N[i]?=some x) (b:N[j]?=some x):i=j:=by
  obtain⟨h1,e1⟩:=List.getElem?_eq_some_iff.mp a
  obtain⟨h2,e2⟩:=List.getElem?_eq_some_iff.mp b
  exact (List.getElem_inj hN).mp (e1.trans e2.symm)
theorem store_ok2 {M:Model} {A:Around} {E:Value->Shared->Prop} {i:Nat} {x:Str} {v:V} {u:Value} {Q:Unit->Shared->Prop} (I:Inv X pins σ H s) (hN:X.N.Nodup) (hi:X.N[i]?=some x) (hx:Loc X.env.scope x) (r:RelV v u)
    (h:∀ s',Inv X pins (σ.set i (some v)) H s'->(∃ a,Heap.SameBut a s.heap s'.heap/\(a=X.env.locals\/X.env.cells.lookup x=some a))->Q () s') (hf:X.fn x=true\/X.env.scope.names.lookup x=some .local:=by first | exact .inl rfl | exact .inr rfl | assumption):wpAny M A (storeName X.env x u) Q E s:=by
  obtain⟨m,hn,hl⟩:=id I.loc
  have hcls:(X.env.scope.kind == .class || (X.env.scope.kind == .module && X.env.locals != X.env.globals))=false:=by rw[I.ok.kind];rfl
  have hiσ:i < σ.length:=by rw[I.len];exact (List.getElem?_eq_some_iff.mp hi).1
  have cne:=I.cne
  have tracked:∀ {a:Addr} {h':Heap},(∃ o,s.heap.get? a=some o/\H a=none)->Heap.SameBut a s.heap h'->HOk X.prog X.w H h':=fun {a h'} ha hs b ob e=>by
    obtain⟨_,_,hfree⟩:=ha
    refine (I.hok b ob e).stay (fun c w' hc q=>(hs.2 c ?_).trans q) (fun _ q=>q) fun _ _ q=>q
    rintro rfl
    rcases hc with rfl | hc
    · rw[hfree] at e;cases e
    · rw[hfree] at hc;cases hc
  rcases hx with hk | hk
  · refine wpAny_storeName_local hk hn (fun h' hn' hs=>?_) hcls
    obtain⟨oL,_,_,hoL,_⟩:=id hn
    refine h _ ⟨I.ok,I.os,I.bare,⟨fun b o e n hb hx=>?_,fun b o e n hb hx=>?_,I.base.free,fun b o e hx=>?_,I.base.tups,I.base.frzs,I.base.tbls⟩,⟨_,hn',fun j y v' e1 e2 e3=>?_⟩,fun y c e=>?_,I.free,I.freeC,fun p hp=>?_,tracked ⟨oL,hoL,I.free⟩ hs,by simpa using I.len⟩ ⟨_,hs,.inl rfl⟩
    · exact (hs.2 b (Nat.ne_of_lt (Nat.lt_of_lt_of_le (Heap.lt_size e) I.ok.above))).trans (I.base.keep b o e n hb hx)
    · obtain⟨sl,e1⟩:=I.base.slot b o e n hb hx
      exact⟨sl,(hs.2 b (Nat.ne_of_lt (Nat.lt_of_lt_of_le (Heap.lt_size e) I.ok.above))).trans e1⟩
    · obtain⟨o',e1⟩:=I.base.there b o e hx
      exact⟨o',(hs.2 b (Nat.ne_of_lt (Nat.lt_of_lt_of_le (Heap.lt_size e) I.ok.above))).trans e1⟩
    · by_cases hj:j=i
      · subst hj
        rw[hi] at e1;cases e1
        rw[List.getElem?_set_self hiσ] at e2
        cases e2
        exact⟨u,r,.inl ⟨hk,by simp⟩⟩
      · rw[List.getElem?_set_ne (Ne.symm hj)] at e2
        obtain⟨u',r',q⟩:=hl j y v' e1 e2 e3
        refine⟨u',r',?_⟩
        rcases q with ⟨k,e⟩ | ⟨k,c,e,z⟩
        · refine .inl ⟨k,?_⟩
          have:y ≠ x:=fun e=>hj (nodup_ix hN e1 (e ▸ hi))
          simp[this,e]
        · exact .inr ⟨k,c,e,z.sameBut hs (cne y c e)⟩
    · obtain⟨w',z⟩:=I.cell y c e
      exact⟨w',z.sameBut hs (cne y c e)⟩
    · obtain⟨e,n,ne,nf,d⟩:=I.pin p hp
      exact⟨(hs.2 p.1 ne).trans e,n,ne,nf,d⟩
  · have hfn:X.fn x=true:=by
      rcases hf with z | z
      · exact z
      · rw[z] at hk;cases hk
    obtain⟨c,hc⟩:=I.ok.has x (.inl hk)
    obtain⟨w',z⟩:=I.cell x c hc
    refine wpAny_storeName_cell I.ok.kind hk hc z (fun h' hc' hs=>?_)
    obtain⟨oc,hoc,hocd⟩:=id z
    refine h { s with heap:=h' } ⟨I.ok,I.os,I.bare,⟨fun b o e n hb hx=>?_,fun b o e n hb hx=>?_,I.base.free,fun b o e hx=>?_,I.base.tups,I.base.frzs,I.base.tbls⟩,⟨m,hn.sameBut hs (Ne.symm (cne x c hc)),fun j y v' e1 e2 e3=>?_⟩,fun y c' e=>?_,I.free,I.freeC,fun p hp=>?_,tracked ⟨oc,hoc,I.freeC x c hc⟩ hs,by simpa using I.len⟩ ⟨c,hs,.inr hc⟩
    · exact (hs.2 b (Nat.ne_of_lt (Nat.lt_of_lt_of_le (Heap.lt_size e) (I.ok.cab x c hfn hc)))).trans (I.base.keep b o e n hb hx)
    · obtain⟨sl,e1⟩:=I.base.slot b o e n hb hx
      exact⟨sl,(hs.2 b (Nat.ne_of_lt (Nat.lt_of_lt_of_le (Heap.lt_size e) (I.ok.cab x c hfn hc)))).trans e1⟩
    · obtain⟨o',e1⟩:=I.base.there b o e hx
      exact⟨o',(hs.2 b (Nat.ne_of_lt (Nat.lt_of_lt_of_le (Heap.lt_size e) (I.ok.cab x c hfn hc)))).trans e1⟩
    · by_cases hj:j=i
      · subst hj
        rw[hi] at e1;cases e1
        rw[List.getElem?_set_self hiσ] at e2
        cases e2
        exact⟨u,r,.inr ⟨.inl hk,c,hc,hc'⟩⟩
      · rw[List.getElem?_set_ne (Ne.symm hj)] at e2
        obtain⟨u',r',q⟩:=hl j y v' e1 e2 e3
        refine⟨u',r',?_⟩
        rcases q with q | ⟨k,c',e,z'⟩
        · exact .inl q
        · refine .inr ⟨k,c',e,z'.sameBut hs ?_⟩
          rintro rfl
          exact hj (nodup_ix hN e1 (I.ok.inj _ _ _ e hc ▸ hi))
    · by_cases hcc:c'=c
      · subst hcc;exact⟨_,hc'⟩
      · obtain⟨w2,z2⟩:=I.cell y c' e
        exact⟨w2,z2.sameBut hs hcc⟩
    · obtain⟨e,n,ne,nf,d⟩:=I.pin p hp
      refine⟨(hs.2 p.1 ?_).trans e,n,ne,nf,d⟩
      intro q
      rw[q,hoc] at e
      have q':oc=p.2:=Option.some.inj e
      exact d w' (by rw[<- q'];exact hocd)
theorem store_ok {M:Model} {A:Around} {E:Value->Shared->Prop} {i:Nat} {x:Str} {v:V} {u:Value} {Q:Unit->Shared->Prop} (I:Inv X pins σ H s) (hN:X.N.Nodup) (hi:X.N[i]?=some x) (hx:Loc X.env.scope x) (r:RelV v u)
    (h:∀ s',Inv X pins (σ.set i (some v)) H s'->Q () s') (hf:X.fn x=true\/X.env.scope.names.lookup x=some .local:=by first | exact .inl rfl | exact .inr rfl | assumption):wpAny M A (storeName X.env x u) Q E s:=
  store_ok2 I hN hi hx r (fun s' I' _=>h s' I') hf
theorem Inv.call' {s':Shared} {ch:List Addr} (I:Inv X pins σ H s) (ho:s'.os=s.os) (u:Un (frs X.stack) ch H H' s.heap s'.heap) (hok:HOk X.prog X.w H' s'.heap) (hg:AllBare s'.gens)
    (hch:∀ b ∈ ch,(b ∈ X.ex\/X.s₀.heap.objs.size <= b)/\b ≠ X.env.locals/\(∀ x c,X.env.cells.lookup x=some c->c ≠ b)/\∀ p ∈ X.pn++pins,p.1 ≠ b):Inv X pins σ H' s':=by
  obtain⟨h',g',d',t',o'⟩:=s'
  have e:o'=s.os:=ho
  subst e
  exact I.call (g':=g') (t':=t') (d':=d') u hok hg hch
end
abbrev XK:=Value->Option Addr->Hp->Prop
abbrev St:=List (Option V)
abbrev VK:=V->Hp->Prop
abbrev TE:=St->Hp->VK->Prop
abbrev TT:=St->Hp->(Bool->Hp->Prop)->Prop
abbrev TA:=St->Hp->(List V->Hp->Prop)->Prop
structure Ends where
  nx:St->Hp->Prop
  rt:VK
  bk:St->Hp->Prop:=fun _ _=>False
  ct:St->Hp->Prop:=fun _ _=>False
abbrev TS:=Ends->St->Hp->Prop
def EP (X:Cx) (pins:List (Addr × Obj)) (σ:St) (Q:VK) (u:Value) (s':Shared):Prop:=∃ v H',Inv X pins σ H' s'/\RelV v u/\Q v H'
def TP (X:Cx) (pins:List (Addr × Obj)) (σ:St) (Q:Bool->Hp->Prop) (b:Bool) (s':Shared):Prop:=∃ H',Inv X pins σ H' s'/\Q b H'
def AP (X:Cx) (pins:List (Addr × Obj)) (σ:St) (Q:List V->Hp->Prop) (us:List Value) (s':Shared):Prop:=∃ vs H',Inv X pins σ H' s'/\Vals vs us/\Q vs H'
def SP (X:Cx) (pins:List (Addr × Obj)) (D:Ends) (f:Flow) (s':Shared):Prop:=
  match f with
  | .next=>∃ σ' H',Inv X pins σ' H' s'/\D.nx σ' H'
  | .brk=>∃ σ' H',Inv X pins σ' H' s'/\D.bk σ' H'
  | .cont=>∃ σ' H',Inv X pins σ' H' s'/\D.ct σ' H'
  | .ret u=>∃ v σ' H',Inv X pins σ' H' s'/\RelV v u/\D.rt v H'
def PE (X:Cx) (e:Expr) (t:TE):Prop:=
  ∀ (pins:List (Addr × Obj)) (s:Shared) (σ:St) (H:Hp) (Q:VK),Inv X pins σ H s->t σ H Q->wpAny (model X.prog X.w) X.A (eval e X.env) (EP X pins σ Q) X.xe s
def PT (X:Cx) (e:Expr) (t:TT):Prop:=
  ∀ (pins:List (Addr × Obj)) (s:Shared) (σ:St) (H:Hp) (Q:Bool->Hp->Prop),Inv X pins σ H s->t σ H Q->wpAny (model X.prog X.w) X.A (isTrue e X.env (eval e X.env)) (TP X pins σ Q) X.xe s
def PW (X:Cx) (e:Expr) (t:TT):Prop:=
  ∀ (whole:Sem Value) (pins:List (Addr × Obj)) (s:Shared) (σ:St) (H:Hp) (Q:Bool->Hp->Prop),Inv X pins σ H s->t σ H Q->wpAny (model X.prog X.w) X.A (isTrue e X.env whole) (TP X pins σ Q) X.xe s
theorem PW.pt {X:Cx} {e:Expr} {t:TT} (h:PW X e t):PT X e t:=h _
def PA (X:Cx) (es:List Expr) (t:TA):Prop:=
  ∀ (pos:Pos) (pins:List (Addr × Obj)) (s:Shared) (σ:St) (H:Hp) (Q:List V->Hp->Prop),Inv X pins σ H s->t σ H Q->wpAny (model X.prog X.w) X.A (spliced (backTo pos (starEach es X.env))) (AP X pins σ Q) X.xe s
def PS (X:Cx) (st:Stmt) (t:TS):Prop:=
  ∀ (pins:List (Addr × Obj)) (s:Shared) (σ:St) (H:Hp) (D:Ends),Inv X pins σ H s->t D σ H->wpAny (model X.prog X.w) X.A (exec st X.env) (SP X pins D) X.xe s
def PSs (X:Cx) (st:List Stmt) (t:TS):Prop:=
  ∀ (pins:List (Addr × Obj)) (s:Shared) (σ:St) (H:Hp) (D:Ends),Inv X pins σ H s->t D σ H->wpAny (model X.prog X.w) X.A (execs st X.env) (SP X pins D) X.xe s
theorem thn {α:Type} {t:Sem α} {Q Q':α->Shared->Prop} {M:Model} {A:Around} {E:Value->Shared->Prop} {s:Shared} (h:wpAny M A t Q E s) (hQ:∀ a s,Q a s->Q' a s):wpAny M A t Q' E s:=wpAny_mono h hQ fun _ _ x=>x
end L2
namespace L2
open PySem PySem.Spec PyProof.Rows
section
variable {X:Cx}
def tVar (i:Nat):TE:=fun σ H Q=>∃ v,σ[i]?=some (some v)/\Q v H
def tC (v:V):TE:=fun _ H Q=>Q v H
theorem pe_var {i:Nat} {x:Str} {pos:Pos} (hN:X.N[i]?=some x) (hv:Vis X.env.scope x) (hd:(x == ("__debug__" : Str))=false:=by decide) (hcd:(x == ("__classdict__" : Str))=false:=by decide):PE X (.Name x pos) (tVar i):=by
  intro pins s σ H Q I h
  obtain⟨v,e,h⟩:=h
  obtain⟨m,hn,hl⟩:=I.loc
  obtain⟨u,r,l⟩:=hl i x v hN e hv
  have fin:EP X pins σ Q u s:=⟨v,H,I,r,h⟩
  rcases l with ⟨hk,hm⟩ | ⟨hk,c,hc,hcell⟩
  · exact wpAny_Name (wpAny_loadName_local I.ok.kind hk hn hm fin) hd
  · rcases hk with hk | hk
    · exact wpAny_Name (wpAny_loadName_cell I.ok.kind hk hc hcell fin) hd
    · exact wpAny_Name (wpAny_loadName_free I.ok.kind hk hc hcell fin hcd) hd
theorem pe_int {i j pos}:PE X (.Constant (.int i) j pos) (tC (.int i)):=fun _ _ _ H _ I h=>wpAny_Constant_int ⟨.int i,H,I.tok _,⟨_,rfl⟩,h⟩
theorem pe_bl {b j pos}:PE X (.Constant (.bool b) j pos) (tC (.bl b)):=fun _ _ _ H _ I h=>Constant_bool ⟨.bl b,H,I,rfl,h⟩
theorem pe_non {j pos}:PE X (.Constant .none j pos) (tC .non):=fun _ _ _ H _ I h=>Constant_none ⟨.non,H,I,rfl,h⟩
theorem pe_str {x j pos}:PE X (.Constant (.str x) j pos) (tC (.str x)):=fun _ _ _ H _ I h=>Calls.Constant_str ⟨.str x,H,I.tok _,⟨_,rfl⟩,h⟩
def Gl (X:Cx) (x:Str):Prop:=X.env.kindOf x=some .globalImplicit
theorem ld_glob {E:Value->Shared->Prop} {pins:List (Addr × Obj)} {s:Shared} {σ:St} {H:Hp} {x:Str} {u:Value} {pos:Pos} {Q:Value->Shared->Prop} (I:Inv X pins σ H s) (hg:Gl X x) (hm:X.mg x=some u) (h:Q u s)
    (hd:(x == ("__debug__" : Str))=false:=by decide):wpAny (model X.prog X.w) X.A (eval (.Name x pos) X.env) Q E s:=
  Calls.Name_function_global I.ok.kind hg (Calls.loadGlobal_global (by rw[I.ok.glob];exact I.mod.glob.keeps I.bk) hm h) hd
theorem ld_blt {E:Value->Shared->Prop} {pins:List (Addr × Obj)} {s:Shared} {σ:St} {H:Hp} {x:Str} {u:Value} {pos:Pos} {Q:Value->Shared->Prop} (I:Inv X pins σ H s) (hg:Gl X x) (hm:X.mg x=none) (hv:bootBuiltins x=some u) (h:Q u s)
    (hn:x ≠ "__name__":=by decide) (hd:(x == ("__debug__" : Str))=false:=by decide):wpAny (model X.prog X.w) X.A (eval (.Name x pos) X.env) Q E s:=by
  obtain⟨mb,h1,h2⟩:=I.mod.blt
  exact Calls.Name_function_global I.ok.kind hg (Calls.loadGlobal_builtin (by rw[I.ok.glob];exact I.mod.glob.keeps I.bk) hm (by rw[I.ok.blt];exact h1.keeps I.bk) ((h2 x hn).trans hv) h) hd
theorem pe_glob {x:Str} {v:V} {u:Value} {pos:Pos} (hg:Gl X x) (hm:X.mg x=some u) (r:RelV v u) (hd:(x == ("__debug__" : Str))=false:=by decide):PE X (.Name x pos) (tC v):=
  fun _ _ _ H _ I h=>ld_glob I hg hm ⟨v,H,I,r,h⟩ hd
theorem pe_bltn {x:Str} {v:V} {u:Value} {pos:Pos} (hg:Gl X x) (hm:X.mg x=none) (hv:bootBuiltins x=some u) (r:RelV v u) (hn:x ≠ "__name__":=by decide) (hd:(x == ("__debug__" : Str))=false:=by decide):PE X (.Name x pos) (tC v):=
  fun _ _ _ H _ I h=>ld_blt I hg hm hv ⟨v,H,I,r,h⟩ hn hd
variable {a b:Expr} {ta tb:TE} {pos:Pos}
def tB (t:TE):TT:=fun σ H Q=>t σ H fun x H1=>∃ c,x=.bl c/\Q c H1
theorem pt_val {e:Expr} {t:TE} (h:PE X e t) (he:∀ whole,isTrue e X.env whole=(do let v <- whole;standAt e.pos;holding [v] (truthy v)):=by intro _;rfl):PT X e (tB t):=by
  intro pins s σ H Q I hw
  refine isTrue_plain (thn (h pins s σ H _ I hw) fun v s1 ⟨x,H1,I1,r1,q1⟩=>?_) (he _)
  obtain⟨d,rfl,q⟩:=q1
  cases r1
  exact wpAny_truthy_bool ⟨H1,I1,q⟩
variable {tA tB':TT} {rest:List Expr}
def tAnd (t u:TT):TT:=fun σ H Q=>t σ H fun c H1=>if c=true then u σ H1 Q else Q false H1
def tOr (t u:TT):TT:=fun σ H Q=>t σ H fun c H1=>if c=true then Q true H1 else u σ H1 Q
def tNot (t:TT):TT:=fun σ H Q=>t σ H fun c H1=>Q (!c) H1
theorem pw_and1 (ha:PT X a tA):PW X (.BoolOp .And [a] pos) tA:=by
  intro wh pins s σ H Q I h
  refine isTrue_and (thn (ha pins s σ H Q I h) fun c s1 e=>?_)
  cases c with
  | true=>exact isTrue_and_nil e
  | false=>exact e
theorem pw_or1 (ha:PT X a tA):PW X (.BoolOp .Or [a] pos) tA:=by
  intro wh pins s σ H Q I h
  refine isTrue_or (thn (ha pins s σ H Q I h) fun c s1 e=>?_)
  cases c with
  | false=>exact isTrue_or_nil e
  | true=>exact e
theorem pw_and (ha:PT X a tA) (hb:PW X (.BoolOp .And (b::rest) pos) tB'):PW X (.BoolOp .And (a::b::rest) pos) (tAnd tA tB'):=by
  intro wh pins s σ H Q I h
  refine isTrue_and (thn (ha pins s σ H _ I h) fun c s1 ⟨H1,I1,q1⟩=>?_)
  cases c with
  | true=>exact hb wh pins s1 σ H1 Q I1 q1
  | false=>exact⟨H1,I1,q1⟩
theorem pw_or (ha:PT X a tA) (hb:PW X (.BoolOp .Or (b::rest) pos) tB'):PW X (.BoolOp .Or (a::b::rest) pos) (tOr tA tB'):=by
  intro wh pins s σ H Q I h
  refine isTrue_or (thn (ha pins s σ H _ I h) fun c s1 ⟨H1,I1,q1⟩=>?_)
  cases c with
  | true=>exact⟨H1,I1,q1⟩
  | false=>exact hb wh pins s1 σ H1 Q I1 q1
theorem pt_not (ha:PT X a tA):PT X (.UnaryOp .Not a pos) (tNot tA):=by
  intro pins s σ H Q I h
  exact isTrue_not (ha pins s σ H (fun c H1=>Q (!c) H1) I h)
def tAndV (ta tb:TE):TE:=fun σ H Q=>ta σ H fun x H1=>∃ c,x=.bl c/\if c=true then tb σ H1 Q else Q (.bl false) H1
def tOrV (ta tb:TE):TE:=fun σ H Q=>ta σ H fun x H1=>∃ c,x=.bl c/\if c=true then Q (.bl true) H1 else tb σ H1 Q
def tNotV (ta:TE):TE:=fun σ H Q=>ta σ H fun x H1=>∃ c,x=.bl c/\Q (.bl (!c)) H1
theorem pe_one {op} {t:TE} (h:PE X a t):PE X (.BoolOp op [a] pos) t:=fun pins s σ H Q I hw=>BoolOp_one (h pins s σ H Q I hw)
theorem pe_and (ha:PE X a ta) (hb:PE X (.BoolOp .And (b::rest) pos) tb):PE X (.BoolOp .And (a::b::rest) pos) (tAndV ta tb):=by
  intro pins s σ H Q I h
  refine BoolOp_and (thn (ha pins s σ H _ I h) fun v s1 ⟨x,H1,I1,r1,q1⟩=>?_)
  obtain⟨c,rfl,q1⟩:=q1
  cases r1
  refine wpAny_truthy_bool ?_
  cases c with
  | true=>exact hb pins s1 σ H1 Q I1 q1
  | false=>exact⟨.bl false,H1,I1,rfl,q1⟩
theorem pe_or (ha:PE X a ta) (hb:PE X (.BoolOp .Or (b::rest) pos) tb):PE X (.BoolOp .Or (a::b::rest) pos) (tOrV ta tb):=by
  intro pins s σ H Q I h
  refine BoolOp_or (thn (ha pins s σ H _ I h) fun v s1 ⟨x,H1,I1,r1,q1⟩=>?_)
  obtain⟨c,rfl,q1⟩:=q1
  cases r1
  refine wpAny_truthy_bool ?_
  cases c with
  | false=>exact hb pins s1 σ H1 Q I1 q1
  | true=>exact⟨.bl true,H1,I1,rfl,q1⟩
theorem pe_not (ha:PE X a ta):PE X (.UnaryOp .Not a pos) (tNotV ta):=by
  intro pins s σ H Q I h
  refine UnaryOp_ (thn (ha pins s σ H _ I h) fun v s1 ⟨x,H1,I1,r1,q1⟩=>?_)
  obtain⟨c,rfl,q1⟩:=q1
  cases r1
  exact not_of (wpAny_truthy_bool ⟨.bl (!c),H1,I1,rfl,q1⟩)
end
end L2
namespace L2
open PySem PySem.Spec PyProof.Rows
def SqL (K:PySem.W.Frag) (H:Hp) (a:Addr) (xs:List V):Prop:=
  Rd H a (.lst xs) \/
    ∃ (o:Obj) (its:Array Value) (n:Nat),K.lookup a=some o/\o.cls=.type "list"/\o.dict=none/\o.data=.seq its n/\its.size <= sizeLine/\Vals xs its.toList
def SqT (K:PySem.W.Frag) (H:Hp) (a:Addr) (xs:List V):Prop:=
  Rd H a (.tup xs) \/
    ∃ (o:Obj) (its:Array Value) (n:Nat),K.lookup a=some o/\o.cls=.type "tuple"/\o.data=.seq its n/\its.size <= sizeLine/\Vals xs its.toList
noncomputable def absV:Value->Option V
  | .none=>some .non
  | .bool b=>some (.bl b)
  | .int i _=>some (.int i)
  | .str x _=>some (.str x)
  | .bytes b _=>some (.byt b)
  | .float b _=>some (.flt b)
  | .ref a=>some (.ref a)
  | .type n=>some (.ty n)
  | _=>none
theorem RelV.abs {x:V} {u:Value} (r:RelV x u):absV u=some x:=by
  cases x with
  | non=>cases r;rfl
  | bl _=>cases r;rfl
  | int _=>obtain⟨t,rfl⟩:=r;rfl
  | str _=>obtain⟨t,rfl⟩:=r;rfl
  | byt _=>obtain⟨t,rfl⟩:=r;rfl
  | flt _=>obtain⟨t,rfl⟩:=r;rfl
  | ref _=>cases r;rfl
  | ty _=>cases r;rfl
theorem RelV.inj {x y:V} {u:Value} (r:RelV x u) (q:RelV y u):x=y:=Option.some.inj (r.abs.symm.trans q.abs)
theorem Vals.inj:∀ {xs ys:List V} {us:List Value},Vals xs us->Vals ys us->xs=ys
  | _,_,_,.nil,.nil=>rfl
  | _,_,_,.cons r t,.cons r' t'=>by rw[r.inj r',Vals.inj t t']
section
variable {X:Cx} {pins:List (Addr × Obj)} {σ:St} {H:Hp} {s:Shared} {a:Addr} {xs ys:List V}
theorem SqL.of {K:PySem.W.Frag} (h:H a=some (.lst xs)):SqL K H a xs:=.inl (.inl h)
theorem SqT.of {K:PySem.W.Frag} (h:H a=some (.tup xs)):SqT K H a xs:=.inl (.inl h)
theorem Inv.list (I:Inv X pins σ H s) (h:SqL X.K H a xs):∃ its:List Value,Vals xs its/\PlainL s.heap a its.toArray/\xs.length <= sizeLine:=by
  rcases h with h | ⟨o,its,n,hk,hc,hd,hs,hz,r⟩
  · obtain⟨z,its,n,r,e⟩:=h.ok I.hok
    exact⟨its,r,⟨_,n,e,rfl,rfl,rfl⟩,z⟩
  · refine⟨its.toList,r,⟨o,n,I.kIn a o hk,hc,hd,by simpa using hs⟩,?_⟩
    have e:=r.length
    simp only[Array.length_toList] at e
    omega
theorem Inv.tuple (I:Inv X pins σ H s) (h:SqT X.K H a xs):∃ its:List Value,Vals xs its/\IsTup s.heap a its.toArray/\xs.length <= sizeLine:=by
  rcases h with h | ⟨o,its,n,hk,hc,hs,hz,r⟩
  · obtain⟨z,its,r,p⟩:=h.ok I.hok
    exact⟨its,r,p,z.1⟩
  · refine⟨its.toList,r,⟨o,I.kIn a o hk,hc,n,by simpa using hs⟩,?_⟩
    have e:=r.length
    simp only[Array.length_toList] at e
    omega
theorem Inv.list_inj (I:Inv X pins σ H s) (h:SqL X.K H a xs) (h':SqL X.K H a ys):xs=ys:=by
  obtain⟨its,r,⟨o,n,e,_,_,d⟩,_⟩:=I.list h
  obtain⟨its',r',⟨o',n',e',_,_,d'⟩,_⟩:=I.list h'
  rw[e] at e';cases e'
  rw[d] at d'
  injection d' with d1 _
  have:its=its':=by simpa using congrArg Array.toList d1
  subst this
  exact r.inj r'
theorem Inv.tuple_inj (I:Inv X pins σ H s) (h:SqT X.K H a xs) (h':SqT X.K H a ys):xs=ys:=by
  obtain⟨its,r,⟨o,e,_,n,d⟩,_⟩:=I.tuple h
  obtain⟨its',r',⟨o',e',_,n',d'⟩,_⟩:=I.tuple h'
  rw[e] at e';cases e'
  rw[d] at d'
  injection d' with d1 _
  have:its=its':=by simpa using congrArg Array.toList d1
  subst this
  exact r.inj r'
end
abbrev Cx.wish (X:Cx) (E:Value->Shared->Prop):Cx:={ X with xe:=E }
abbrev Cx.nox (X:Cx):Cx:=X.wish fun _ _=>False
theorem Cx.Ok.wish {X:Cx} (ok:X.Ok) (E:Value->Shared->Prop):(X.wish E).Ok:=
  ⟨ok.mod,ok.kind,ok.glob,ok.blt,ok.above,ok.inj,ok.has,ok.cab,ok.hd,ok.frames,ok.stk,ok.exf,ok.bs,ok.bsz,ok.noex,ok.exfs,ok.funs,ok.frf⟩
theorem Cx.Ok.unwish {X:Cx} {E:Value->Shared->Prop} (ok:(X.wish E).Ok):X.Ok:=
  ⟨ok.mod,ok.kind,ok.glob,ok.blt,ok.above,ok.inj,ok.has,ok.cab,ok.hd,ok.frames,ok.stk,ok.exf,ok.bs,ok.bsz,ok.noex,ok.exfs,ok.funs,ok.frf⟩
section
variable {X:Cx} {pins:List (Addr × Obj)} {σ:St} {H:Hp} {s:Shared} {E:Value->Shared->Prop}
theorem Inv.wish (I:Inv X pins σ H s) (E:Value->Shared->Prop):Inv (X.wish E) pins σ H s:=⟨I.ok.wish E,I.os,I.bare,I.base,I.loc,I.cell,I.free,I.freeC,I.pin,I.hok,I.len⟩
theorem Inv.unwish (I:Inv (X.wish E) pins σ H s):Inv X pins σ H s:=⟨I.ok.unwish,I.os,I.bare,I.base,I.loc,I.cell,I.free,I.freeC,I.pin,I.hok,I.len⟩
theorem SP.unwish {D:Ends} {f:Flow} {s':Shared} (h:SP (X.wish E) pins D f s'):SP X pins D f s':=by
  cases f with
  | next=>obtain⟨σ',H',I,q⟩:=h;exact⟨σ',H',I.unwish,q⟩
  | brk=>obtain⟨σ',H',I,q⟩:=h;exact⟨σ',H',I.unwish,q⟩
  | cont=>obtain⟨σ',H',I,q⟩:=h;exact⟨σ',H',I.unwish,q⟩
  | ret u=>obtain⟨v,σ',H',I,r,q⟩:=h;exact⟨v,σ',H',I.unwish,r,q⟩
theorem PSs.nox {st:List Stmt} {t:TS} (h:PSs X.nox st t):PSs X st t:=fun pins s σ H D I hw=>
  wpAny_mono (h pins s σ H D (I.wish _) hw) (fun _ _ q=>q.unwish) fun _ _ z=>False.elim z
end
section
variable {X:Cx} {st:Stmt} {rest:List Stmt} {t u:TS} {e:Expr} {te:TE} {pos:Pos}
def tNext:TS:=fun D σ H=>D.nx σ H
def tSeq (t u:TS):TS:=fun D σ H=>t { D with nx:=u D } σ H
theorem pss_nil:PSs X [] tNext:=fun _ _ σ H _ I h=>wpAny_execs_nil ⟨σ,H,I,h⟩
theorem pss_cons (h1:PS X st t) (h2:PSs X rest u):PSs X (st::rest) (tSeq t u):=by
  intro pins s σ H D I h
  refine wpAny_execs_cons (thn (h1 pins s σ H { D with nx:=u D } I h) fun f s1 q=>?_)
  cases f with
  | next=>
    obtain⟨σ',H',I',q⟩:=q
    exact h2 pins s1 σ' H' D I' q
  | ret v=>exact q
  | brk=>exact q
  | cont=>exact q
theorem pss_one (h1:PS X st t):PSs X [st] t:=by
  intro pins s σ H D I h
  refine wpAny_execs_cons (thn (h1 pins s σ H D I h) fun f s1 q=>?_)
  cases f with
  | next=>exact wpAny_execs_nil q
  | ret v=>exact q
  | brk=>exact q
  | cont=>exact q
theorem Inv.quiet {pins:List (Addr × Obj)} {σ:St} {H:Hp} {s:Shared} (I:Inv X pins σ H s):interactive X.env=false:=by simp[interactive,I.ok.kind]
def tDrop (te:TE):TS:=fun D σ H=>te σ H fun _ H1=>D.nx σ H1
theorem ps_expr (he:PE X e te) (hs:swapsWith e none pos.line X.env=pure false:=by rfl):PS X (.Expr e pos) (tDrop te):=by
  intro pins s σ H D I h
  exact wpAny_Expr_any (thn (he pins s σ H _ I h) fun v s1 ⟨x,H1,I1,r1,q1⟩=>⟨σ,H1,I1,q1⟩) I.quiet hs
def tRet (te:TE):TS:=fun D σ H=>te σ H D.rt
theorem ps_ret (he:PE X e te):PS X (.Return (some e) pos) (tRet te):=by
  intro pins s σ H D I h
  exact wpAny_Return_some (thn (he pins s σ H _ I h) fun v s1 ⟨x,H1,I1,r1,q1⟩=>⟨x,σ,H1,I1,r1,q1⟩)
def tIfS (c:TT) (t u:TS):TS:=fun D σ H=>c σ H fun b H1=>if b=true then t D σ H1 else u D σ H1
theorem ps_if {c:Expr} {a b:List Stmt} {tc:TT} (hc:PT X c tc) (ha:PSs X a t) (hb:PSs X b u):PS X (.If c a b pos) (tIfS tc t u):=by
  intro pins s σ H D I h
  refine wpAny_If (thn (hc pins s σ H _ I h) fun d s1 ⟨H1,I1,q1⟩=>?_)
  cases d with
  | true=>exact ha pins s1 σ H1 D I1 q1
  | false=>exact hb pins s1 σ H1 D I1 q1
end
abbrev TG:=V->St->Hp->(St->Hp->Prop)->Prop
abbrev TGs:=List V->St->Hp->(St->Hp->Prop)->Prop
def PG (X:Cx) (target:Expr) (t:TG):Prop:=
  ∀ (pins:List (Addr × Obj)) (s:Shared) (σ:St) (H:Hp) (v:V) (u:Value) (Q:St->Hp->Prop),Inv X pins σ H s->RelV v u->t v σ H Q ->
    wpAny (model X.prog X.w) X.A (assign target X.env u) (fun _ s'=>∃ σ' H',Inv X pins σ' H' s'/\Q σ' H') X.xe s
def PGs (X:Cx) (ts:List Expr) (t:TGs):Prop:=
  ∀ (pins:List (Addr × Obj)) (s:Shared) (σ:St) (H:Hp) (vs:List V) (us:List Value) (Q:St->Hp->Prop),Inv X pins σ H s->Vals vs us->t vs σ H Q ->
    wpAny (model X.prog X.w) X.A (assignInOrder ((assignEach ts X.env).map (·.2)) us) (fun _ s'=>∃ σ' H',Inv X pins σ' H' s'/\Q σ' H') X.xe s
abbrev TSet:=V->V->V->Hp->(Hp->Prop)->Prop
def PSet (X:Cx) (t:TSet):Prop:=
  ∀ (pins:List (Addr × Obj)) (s:Shared) (σ:St) (H:Hp) (o i v:V) (ov iv u:Value) (Q:Hp->Prop),Inv X pins σ H s->RelV o ov->RelV i iv->RelV v u->t o i v H Q ->
    wpAny (model X.prog X.w) X.A (setItem ov iv u) (fun _ s'=>∃ H',Inv X pins σ H' s'/\Q H') X.xe s
section
variable {X:Cx} {pos:Pos}
def gName (i:Nat):TG:=fun v σ H Q=>Q (σ.set i (some v)) H
theorem pg_name {i:Nat} {x:Str} (hN:X.N.Nodup) (hi:X.N[i]?=some x) (hx:Loc X.env.scope x) (hf:X.fn x=true\/X.env.scope.names.lookup x=some .local:=by first | exact .inl rfl | exact .inr rfl | assumption):PG X (.Name x pos) (gName i):=by
  intro pins s σ H v u Q I r h
  exact wpAny_assign_Name (store_ok I hN hi hx r (fun s' I'=>⟨_,H,I',h⟩) hf)
def gNil:TGs:=fun vs σ H Q=>vs=[]/\Q σ H
def gCons (t:TG) (u:TGs):TGs:=fun vs σ H Q=>∃ v r,vs=v::r/\t v σ H fun σ' H'=>u r σ' H' Q
theorem pgs_nil:PGs X [] gNil:=by
  intro pins s σ H vs us Q I r h
  obtain⟨e,h⟩:=h
  subst e
  cases r
  exact assignInOrder_nil ⟨σ,H,I,h⟩
theorem pgs_cons {e:Expr} {es:List Expr} {t:TG} {u:TGs} (h1:PG X e t) (h2:PGs X es u)
    (hs:(assignEach (e::es) X.env).map (·.2)=assign e X.env::(assignEach es X.env).map (·.2):=by rfl):PGs X (e::es) (gCons t u):=by
  intro pins s σ H vs us Q I r h
  obtain⟨v,vr,e1,h⟩:=h
  subst e1
  cases r with
  | cons r rr=>
    rw[hs]
    refine assignInOrder_cons (thn (h1 pins s σ H _ _ _ I r h) fun _ s1 ⟨σ1,H1,I1,q1⟩=>?_)
    exact h2 pins s1 σ1 H1 _ _ Q I1 rr q1
def gTup (K:PySem.W.Frag) (n:Nat) (t:TGs):TG:=fun v σ H Q=>∃ a xs,v=.ref a/\SqT K H a xs/\xs.length=n/\t xs σ H Q
theorem pg_tup {es:List Expr} {k:Nat} {t:TGs} {n:Nat} (hc:X.calm=true) (h:PGs X es t)
    (hn:(assignEach es X.env).length=n:=by rfl) (hst:(assignEach es X.env).findIdx? (·.1)=none:=by rfl):PG X (.Tuple es k pos) (gTup X.K n t):=by
  intro pins s σ H v u Q I r hw
  obtain⟨a,xs,e1,hq,hl,hw⟩:=hw
  subst e1
  cases r
  obtain⟨its,rv,ht,hz⟩:=I.tuple hq
  refine assign_Tuple_tuple (I.ok.hd hc) ht (by simp[hn,<- hl,rv.length]) hst fun h' hx=>?_
  have I1:Inv X pins σ H { s with heap:=h' }:=I.kept (t':=s.toks) fun b o e=>hx b o (Nat.ne_of_lt (Heap.lt_size e)) e
  exact h pins _ σ H xs _ Q I1 (by simpa using rv) hw
def gSub (to ti:TE) (t:TSet):TG:=fun v σ H Q=>to σ H fun o H1=>ti σ H1 fun i H2=>t o i v H2 fun H3=>Q σ H3
theorem pg_sub {o i:Expr} {to ti:TE} {t:TSet} (ho:PE X o to) (hi:PE X i ti) (hs:PSet X t)
    (ha:∀ v,assign (.Subscript o i pos) X.env v=(do
      let ov <- holding [v] (eval o X.env)
      let iv <- holding [v,ov] (eval i X.env)
      standAt pos
      holding [v,ov,iv] (setItem ov iv v)
      release [v,ov,iv] []):=by intro _;rfl):PG X (.Subscript o i pos) (gSub to ti t):=by
  intro pins s σ H v u Q I r h
  rw[ha]
  refine wpAny_bind (wpAny_holding (thn (ho pins s σ H _ I h) fun ov s1 ⟨x,H1,I1,r1,q1⟩=>?_))
  refine wpAny_bind (wpAny_holding (thn (hi pins s1 σ H1 _ I1 q1) fun iv s2 ⟨y,H2,I2,r2,q2⟩=>?_))
  refine wpAny_bind (wpAny_standAt (wpAny_bind (wpAny_holding (thn (hs pins s2 σ H2 x y v ov iv u _ I2 r1 r2 r q2) fun _ s3 ⟨H3,I3,q3⟩=>?_))))
  exact wpAny_release ⟨σ,H3,I3,q3⟩
def tAsg (te:TE) (g:TG):TS:=fun D σ H=>te σ H fun x H1=>g x σ H1 D.nx
theorem ps_asg {tg e:Expr} {te:TE} {g:TG} (he:PE X e te) (hg:PG X tg g) (hs:swapsWithSole [tg] e pos.line X.env=pure false:=by rfl) (hw:swappedStores [tg] e X.env=pure none:=by rfl)
    (h1:(assignEach [tg] X.env).map (·.2)=[assign tg X.env]:=by rfl):PS X (.Assign [tg] e pos) (tAsg te g):=by
  intro pins s σ H D I h
  refine wpAny_Assign_stores (thn (he pins s σ H _ I h) fun v s1 ⟨x,H1,I1,r1,q1⟩=>?_) hs hw
  rw[h1]
  exact thn (hg pins s1 σ H1 x v _ I1 r1 q1) fun _ s2 q=>q
theorem ps_set {i:Nat} {x:Str} {e:Expr} {te:TE} {pos':Pos} (hN:X.N.Nodup) (hi:X.N[i]?=some x) (hx:Loc X.env.scope x) (he:PE X e te) (hs:swapsWith e (some (.Name x pos')) pos.line X.env=pure false:=by rfl) (hf:X.fn x=true\/X.env.scope.names.lookup x=some .local:=by first | exact .inl rfl | exact .inr rfl | assumption) :
    PS X (.Assign [.Name x pos'] e pos) (tAsg te (gName i)):=by
  intro pins s σ H D I h
  refine wpAny_Assign_Name (thn (he pins s σ H _ I h) fun v s1 ⟨y,H1,I1,r1,q1⟩=>?_) hs
  exact store_ok I1 hN hi hx r1 (fun s2 I2=>⟨_,H1,I2,q1⟩) hf
end
section
variable {X:Cx} {pos:Pos}
def tWhile (c:TT) (tb:TS):TS:=fun D σ H=>∃ W:Nat->St->Hp->Prop,(∃ m,W m σ H)/\∀ m σ H,W m σ H ->
  c σ H fun b H1=>if b=true then ∃ N:St->Hp->Prop,(∀ σ' H',N σ' H'->∃ m',m' < m/\W m' σ' H')/\tb { D with nx:=N,ct:=N,bk:=D.nx } σ H1 else D.nx σ H1
theorem ps_while {c:Expr} {body:List Stmt} {tc:TT} {tb:TS} (hp:PassesOwn (model X.prog X.w) X.A X.env X.xe) (hc:PT X c tc) (hb:PSs X body tb):PS X (.While c body [] pos) (tWhile tc tb):=by
  intro pins s σ H D I h
  obtain⟨W,⟨m0,w0⟩,turn⟩:=h
  refine wpAny_While (codeAny_whileLoop (fun n s'=>∃ σ' H',Inv X pins σ' H' s'/\W n σ' H') ?_ m0 ⟨σ,H,I,w0⟩)
  rintro n s1 ⟨σ1,H1,I1,w1⟩
  refine wpAny_passesOwn hp (thn (hc pins s1 σ1 H1 _ I1 (turn n σ1 H1 w1)) fun b s2 ⟨H2,I2,q2⟩=>?_)
  cases b with
  | true=>
    obtain⟨N,hN,q2⟩:=q2
    rw[if_pos rfl]
    refine wpAny_passesOwn hp (thn (hb pins s2 σ1 H2 _ I2 q2) fun f s3 q3=>?_)
    cases f with
    | next=>
      obtain⟨σ3,H3,I3,n3⟩:=q3
      obtain⟨m',hm,w3⟩:=hN σ3 H3 n3
      exact⟨m',hm,σ3,H3,I3,w3⟩
    | cont=>
      obtain⟨σ3,H3,I3,n3⟩:=q3
      obtain⟨m',hm,w3⟩:=hN σ3 H3 n3
      exact⟨m',hm,σ3,H3,I3,w3⟩
    | brk=>exact q3
    | ret v=>exact q3
  | false=>
    rw[if_neg Bool.false_ne_true]
    exact wpAny_execs_nil ⟨σ1,H2,I2,q2⟩
end
structure It where
  go:Nat->Hp->Prop
  yld:Nat->Hp->V->Hp->Prop
  stop:Nat->Hp->Prop
def FpOk (X:Cx) (pins:List (Addr × Obj)) (H:Hp) (b:Addr):Prop:=
  H b=none/\b ≠ X.env.locals/\b ∉ X.fs/\(b ∈ X.ex\/X.s₀.heap.objs.size <= b)/\(∀ x c,X.env.cells.lookup x=some c->c ≠ b)/\∀ p ∈ X.pn++pins,p.1 ≠ b
theorem Inv.fpOk {X:Cx} {pins:List (Addr × Obj)} {σ:St} {H H':Hp} {s:Shared} {b:Addr} (I:Inv X pins σ H s) (hb:s.heap.objs.size <= b) (hn:H' b=none):FpOk X pins H' b:=by
  refine⟨hn,Nat.ne_of_gt (Nat.lt_of_lt_of_le I.lt hb),I.nofs hb,.inr (Nat.le_trans I.sz hb),fun x c e z=>?_,fun p hp z=>?_⟩
  · obtain⟨v,q⟩:=I.cell x c e
    exact absurd (Nat.lt_of_lt_of_le q.lt (by rw[z];exact hb)) (Nat.lt_irrefl _)
  · exact absurd (Nat.lt_of_lt_of_le (Heap.lt_size (I.pin p hp).1) (by rw[z];exact hb)) (Nat.lt_irrefl _)
structure Turn (P:Program) (w:World) (K:PySem.W.Frag) (tg:Expr) (J:It) (fp:List Addr) (it:Addr) (tn:Nat->Heap->Prop):Prop where
  mem:it ∈ fp
  obj:∀ i h,tn i h->∀ b ∈ fp,∃ o,h.get? b=some o/\∀ v,o.data ≠ .cell v
  keep:∀ i h h',tn i h->(∀ b ∈ fp,∀ o,h.get? b=some o->h'.get? b=some o)->tn i h'
  item:∀ (X:Cx),X.prog=P->X.w=w->X.K=K->X.calm=true->∀ (i:Nat) (pins:List (Addr × Obj)) (s:Shared) (σ:St) (H:Hp) (E:Value->Shared->Prop),Inv X pins σ H s->(∀ b ∈ fp,FpOk X pins H b)->tn i s.heap->J.go i H ->
    wpAny (model P w) X.A (pyNext (.ref it)) (fun r s1=>∃ u,r=some u /\
      wpAny (model P w) X.A (letOwnedTupleGo tg (.ref it) u) (fun _ s2=>∃ x H',Inv X pins σ H' s2/\RelV x u/\J.yld i H x H'/\tn (i+1) s2.heap/\∀ b ∈ fp,H' b=none) E s1) E s
  done:∀ (X:Cx),X.prog=P->X.w=w->X.K=K->X.calm=true->∀ (i:Nat) (pins:List (Addr × Obj)) (s:Shared) (σ:St) (H:Hp) (E:Value->Shared->Prop),Inv X pins σ H s->(∀ b ∈ fp,FpOk X pins H b)->tn i s.heap->J.stop i H ->
    wpAny (model P w) X.A (pyNext (.ref it)) (fun r s1=>r=none/\Inv X pins σ H s1) E s
  self:∀ (A:Around) (i:Nat) (s:Shared) (Q:Value->Shared->Prop) (E:Value->Shared->Prop),tn i s.heap->Q (.ref it) s->wpAny (model P w) A (pyIter (.ref it)) Q E s
abbrev TI:=St->Hp->(It->Hp->Prop)->Prop
def PIE (X:Cx) (pins:List (Addr × Obj)) (σ:St) (tg:Expr) (R:It->Hp->Prop) (itv:Value) (s2:Shared):Prop:=
  ∃ (it:Addr) (fp:List Addr) (tn:Nat->Heap->Prop) (J:It) (H':Hp),itv=.ref it/\Inv X pins σ H' s2/\Turn X.prog X.w X.K tg J fp it tn/\tn 0 s2.heap/\(∀ b ∈ fp,FpOk X pins H' b)/\R J H'
def PI (X:Cx) (tg iter:Expr) (wi:TI):Prop:=
  ∀ (pins:List (Addr × Obj)) (s:Shared) (σ:St) (H:Hp) (R:It->Hp->Prop),Inv X pins σ H s->wi σ H R ->
    wpAny (model X.prog X.w) X.A (eval iter X.env) (fun v s1=>wpAny (model X.prog X.w) X.A (pyIter v) (PIE X pins σ tg R) X.xe s1) X.xe s
theorem go_of {M:Model} {A:Around} {E:Value->Shared->Prop} {s:Shared} {tg:Expr} {it:Addr} {u:Value} {o:Obj} {n:String} {vs:Array Value} {Q:Unit->Shared->Prop} (ho:s.heap.get? it=some o) (hc:o.cls=.type n) (hd:o.data=.fields vs)
    (hn:["enumerate", "zip", "dict_itemiterator", "dict_reverseitemiterator", "odict_iterator", "itertools.zip_longest", "itertools.pairwise"].contains n=false) (hQ:Q () s):wpAny M A (letOwnedTupleGo tg (.ref it) u) Q E s:=by
  unfold letOwnedTupleGo
  cases tg <;> first
    | exact wpAny_pure hQ
    | (cases u <;> first
        | exact wpAny_pure hQ
        | (refine wpAny_bind (wpAny_load ho ?_)
           rw[hc,hd]
           show wpAny M A (if (["enumerate", "zip", "dict_itemiterator", "dict_reverseitemiterator", "odict_iterator", "itertools.zip_longest", "itertools.pairwise"].contains n && vs[0]? == some (rawInt _))=true then _ else _) Q E s
           rw[if_neg (by intro h;rw[hn,Bool.false_and] at h;cases h)]
           exact wpAny_pure hQ))
def Itl (K:PySem.W.Frag) (a:Addr):It:=
  ⟨fun i H=>∃ xs x,SqL K H a xs/\xs[i]?=some x,fun i H x H'=>H'=H/\∀ xs,SqL K H a xs->xs[i]?=some x,fun i H=>∃ xs,SqL K H a xs/\xs.length <= i⟩
def Itt (K:PySem.W.Frag) (a:Addr):It:=
  ⟨fun i H=>∃ xs x,SqT K H a xs/\xs[i]?=some x,fun i H x H'=>H'=H/\∀ xs,SqT K H a xs->xs[i]?=some x,fun i H=>∃ xs,SqT K H a xs/\xs.length <= i⟩
def Itr (lo:Int) (n:Nat):It:=⟨fun i _=>i < n,fun i H x H'=>H'=H/\x=.int (lo+i),fun i _=>n <= i⟩
theorem turn_list {P:Program} {w:World} {K:PySem.W.Frag} {tg:Expr} (a it:Addr):Turn P w K tg (Itl K a) [it] it (fun i h=>h.IsListIter it a i) where
  mem:=by simp
  obj:=fun i h st b hb=>by
    have e:b=it:=by simpa using hb
    subst e
    obtain⟨o,e,c,d⟩:=st
    exact⟨o,e,fun v z=>by rw[d] at z;cases z⟩
  keep:=fun i h h' st k=>st.at fun o e=>k it (by simp) o e
  item:=by
    intro X hP hw hK hc i pins s σ H E I hf st hg
    subst hP hw hK
    obtain⟨xs,x,hq,hx⟩:=hg
    obtain⟨its,rv,p,hz⟩:=I.list hq
    obtain⟨u,hu,ru⟩:=rv.get hx
    obtain⟨f0,f1,f2,f3,f4,f5⟩:=hf it (by simp)
    refine wpAny_pyNext_list_item st p.isList (x:=u) (by simpa using hu) fun h' st' sb=>?_
    have I1:Inv X pins σ H { s with heap:=h' }:=I.turned (t':=s.toks) (fun b o hb e=>(sb.2 b hb).trans e) f0 f1 f3 f4 f5
    obtain⟨o,e,c,d⟩:=id st'
    exact⟨u,rfl,go_of (s:={ s with heap:=h' }) e c d (by decide) ⟨x,H,I1,ru,⟨rfl,fun ys hy=>by rw[I.list_inj hy hq];exact hx⟩,st',fun b hb=>(hf b hb).1⟩⟩
  done:=by
    intro X hP hw hK hc i pins s σ H E I hf st hg
    subst hP hw hK
    obtain⟨xs,hq,hx⟩:=hg
    obtain⟨its,rv,p,hz⟩:=I.list hq
    obtain⟨f0,f1,f2,f3,f4,f5⟩:=hf it (by simp)
    have hl:=rv.length
    exact wpAny_pyNext_list_end (I.ok.hd hc) st p.isList (by simp;omega) fun h' eb=>⟨rfl,I.turned (t':=s.toks) (fun b o hb e=>eb b o hb e) f0 f1 f3 f4 f5⟩
  self:=fun _ _ _ _ _ st h=>wpAny_pyIter_listiter st h
theorem turn_tuple {P:Program} {w:World} {K:PySem.W.Frag} {tg:Expr} (a it:Addr):Turn P w K tg (Itt K a) [it] it (fun i h=>h.IsTupleIter it a i) where
  mem:=by simp
  obj:=fun i h st b hb=>by
    have e:b=it:=by simpa using hb
    subst e
    obtain⟨o,e,c,d⟩:=st
    exact⟨o,e,fun v z=>by rw[d] at z;cases z⟩
  keep:=fun i h h' st k=>st.at fun o e=>k it (by simp) o e
  item:=by
    intro X hP hw hK hc i pins s σ H E I hf st hg
    subst hP hw hK
    obtain⟨xs,x,hq,hx⟩:=hg
    obtain⟨its,rv,p,hz⟩:=I.tuple hq
    obtain⟨u,hu,ru⟩:=rv.get hx
    obtain⟨f0,f1,f2,f3,f4,f5⟩:=hf it (by simp)
    refine wpAny_pyNext_tuple_item st (show s.heap.IsTuple a its.toArray from p) (x:=u) (by simpa using hu) fun h' st' sb=>?_
    have I1:Inv X pins σ H { s with heap:=h' }:=I.turned (t':=s.toks) (fun b o hb e=>(sb.2 b hb).trans e) f0 f1 f3 f4 f5
    obtain⟨o,e,c,d⟩:=id st'
    exact⟨u,rfl,go_of (s:={ s with heap:=h' }) e c d (by decide) ⟨x,H,I1,ru,⟨rfl,fun ys hy=>by rw[I.tuple_inj hy hq];exact hx⟩,st',fun b hb=>(hf b hb).1⟩⟩
  done:=by
    intro X hP hw hK hc i pins s σ H E I hf st hg
    subst hP hw hK
    obtain⟨xs,hq,hx⟩:=hg
    obtain⟨its,rv,p,hz⟩:=I.tuple hq
    obtain⟨f0,f1,f2,f3,f4,f5⟩:=hf it (by simp)
    have hl:=rv.length
    exact wpAny_pyNext_tuple_end (I.ok.hd hc) st (show s.heap.IsTuple a its.toArray from p) (by simp;omega) fun h' eb=>⟨rfl,I.turned (t':=s.toks) (fun b o hb e=>eb b o hb e) f0 f1 f3 f4 f5⟩
  self:=fun _ _ _ _ _ st h=>wpAny_pyIter_tupleiter st h
theorem turn_range {P:Program} {w:World} {K:PySem.W.Frag} {tg:Expr} (it:Addr) (lo:Int) (n:Nat):Turn P w K tg (Itr lo n) [it] it (fun i h=>IsRangeIter h it (lo+(i:Nat) * 1) ((n:Int) - (i:Nat)) 1) where
  mem:=by simp
  obj:=fun i h st b hb=>by
    have e:b=it:=by simpa using hb
    subst e
    exact⟨_,st,fun v z=>by
      have z':Data.fields _=Data.cell v:=z
      cases z'⟩
  keep:=fun i h h' st k=>k it (by simp) _ st
  item:=by
    intro X hP hw hK hc i pins s σ H E I hf st hg
    subst hP hw hK
    obtain⟨f0,f1,f2,f3,f4,f5⟩:=hf it (by simp)
    have W:=Walks.range (prog:=X.prog) (w:=X.w) (I.ok.hd hc) it lo 1 n
    refine W.item i s _ _ hg st fun v h' tk hv st' kk=>?_
    obtain⟨t,rfl⟩:=hv
    have I1:Inv X pins σ H { s with heap:=h',toks:=tk }:=I.turned (fun b o hb e=>kk b o (by simpa using hb) e) f0 f1 f3 f4 f5
    refine⟨_,rfl,go_of (s:={ s with heap:=h',toks:=tk }) (n:="range_iterator") st' rfl rfl (by decide) ⟨.int (lo+i),H,I1,⟨t,?_⟩,⟨rfl,rfl⟩,st',fun b hb=>(hf b hb).1⟩⟩
    rw[Int.mul_one]
  done:=by
    intro X hP hw hK hc i pins s σ H E I hf st hg
    subst hP hw hK
    obtain⟨f0,f1,f2,f3,f4,f5⟩:=hf it (by simp)
    exact wpAny_pyNext_range_end (I.ok.hd hc) st (by have:n <= i:=hg;omega) fun h' eb=>⟨rfl,I.turned (t':=s.toks) (fun b o hb e=>eb b o hb e) f0 f1 f3 f4 f5⟩
  self:=fun _ _ _ _ _ st h=>wpAny_pyIter_rangeiter st h
end L2
namespace L2
open PySem PySem.Spec PyProof.Rows
section
variable {X:Cx} {tg:Expr}
def iList (K:PySem.W.Frag) (tl:TE):TI:=fun σ H R=>tl σ H fun x H1=>∃ a,x=.ref a/\(∃ xs,SqL K H1 a xs)/\R (Itl K a) H1
def iTup (K:PySem.W.Frag) (tl:TE):TI:=fun σ H R=>tl σ H fun x H1=>∃ a,x=.ref a/\(∃ xs,SqT K H1 a xs)/\R (Itt K a) H1
theorem pi_list {l:Expr} {tl:TE} (hl:PE X l tl):PI X tg l (iList X.K tl):=by
  intro pins s σ H R I h
  refine thn (hl pins s σ H _ I h) fun v s1 ⟨x,H1,I1,r1,q1⟩=>?_
  obtain⟨a,e,⟨xs,hq⟩,q⟩:=q1
  subst e
  cases r1
  obtain⟨its,rv,p,hz⟩:=I1.list hq
  refine wpAny_pyIter_list p.isList ?_
  refine⟨s1.heap.objs.size,[s1.heap.objs.size],_,_,H1,rfl,I1.kept (t':=s1.toks) fun b o e=>Heap.get?_push_of_some _ e,turn_list a _,⟨_,Heap.get?_push_size _ rfl,rfl,rfl⟩,fun b hb=>?_,q⟩
  have e:b=s1.heap.objs.size:=by simpa using hb
  subst e
  exact I1.fpOk (Nat.le_refl _) (I1.hok.fresh (Nat.le_refl _))
theorem pi_tup {l:Expr} {tl:TE} (hl:PE X l tl):PI X tg l (iTup X.K tl):=by
  intro pins s σ H R I h
  refine thn (hl pins s σ H _ I h) fun v s1 ⟨x,H1,I1,r1,q1⟩=>?_
  obtain⟨a,e,⟨xs,hq⟩,q⟩:=q1
  subst e
  cases r1
  obtain⟨its,rv,p,hz⟩:=I1.tuple hq
  refine wpAny_pyIter_tuple (show s1.heap.IsTuple a its.toArray from p) ?_
  refine⟨s1.heap.objs.size,[s1.heap.objs.size],_,_,H1,rfl,I1.kept (t':=s1.toks) fun b o e=>Heap.get?_push_of_some _ e,turn_tuple a _,⟨_,Heap.get?_push_size _ rfl,rfl,rfl⟩,fun b hb=>?_,q⟩
  have e:b=s1.heap.objs.size:=by simpa using hb
  subst e
  exact I1.fpOk (Nat.le_refl _) (I1.hok.fresh (Nat.le_refl _))
theorem range_it {pins:List (Addr × Obj)} {σ:St} {H:Hp} {s:Shared} {R:It->Hp->Prop} {E:Value->Shared->Prop} {lo hi:Int} {t u v:Tok} {tk:Nat} (I:Inv X pins σ H s) (h1 : -(2 ^ 62) <= lo) (h2:lo < 2 ^ 62) (h3 : -(2 ^ 62) <= hi) (h4:hi < 2 ^ 62)
    (q:R (Itr lo (hi - lo).toNat) H):wpAny (model X.prog X.w) X.A (pyIter (.ref s.heap.objs.size)) (PIE X pins σ tg R) E { s with heap:=s.heap.push { cls:=.type "range",data:=.fields #[.int lo t,.int hi u,.int 1 v] },toks:=tk }:=by
  refine wpAny_pyIter_range (IsRange.new ..) (small_one h1 h2 h3 h4) ?_
  have I1:Inv X pins σ H { s with heap:=s.heap.push { cls:=.type "range",data:=.fields #[.int lo t,.int hi u,.int 1 v] },toks:=tk }:=I.kept fun b o e=>Heap.get?_push_of_some _ e
  refine⟨(s.heap.push { cls:=.type "range",data:=.fields #[.int lo t,.int hi u,.int 1 v] }).objs.size,[(s.heap.push { cls:=.type "range",data:=.fields #[.int lo t,.int hi u,.int 1 v] }).objs.size],_,_,H,rfl,
    I1.kept (t':=tk) fun b o e=>Heap.get?_push_of_some _ e,turn_range _ lo (hi - lo).toNat,?_,fun b hb=>?_,q⟩
  · have e1:lo+((0:Nat):Int) * 1=lo:=by simp
    have e2:(((hi - lo).toNat:Nat):Int) - ((0:Nat):Int)=Builtin.Range.rangeSize lo hi 1:=by rw[rangeSize_one];split <;> omega
    show IsRangeIter _ _ (lo+((0:Nat):Int) * 1) ((((hi - lo).toNat:Nat):Int) - ((0:Nat):Int)) 1
    rw[e1,e2]
    exact Heap.get?_push_size _ rfl
  · have e:b=(s.heap.push { cls:=.type "range",data:=.fields #[.int lo t,.int hi u,.int 1 v] }).objs.size:=by simpa using hb
    subst e
    exact I1.fpOk (Nat.le_refl _) (I1.hok.fresh (Nat.le_refl _))
def iRng1 (ta:TA):TI:=fun σ H R=>ta σ H fun vs H1=>∃ j:Int,vs=[.int j]/\-(2 ^ 62) <= j/\j < 2 ^ 62/\R (Itr 0 j.toNat) H1
theorem pi_range1 {a:Expr} {ta:TA} {p pos:Pos} (hg:Gl X "range") (hm:X.mg "range" = none) (ha:PA X [a] ta) (hs:starEach [a] X.env=[(false,eval a X.env)]:=by rfl):PI X tg (.Call (.Name "range" p) [a] [] pos) (iRng1 ta):=by
  intro pins s σ H R I h
  refine Call_ (ld_blt I hg hm boot_range (PyProof.Rows.callWith_type1 (thn (ha pos pins s σ H _ I h) fun us s1 ⟨vs,H1,I1,r1,q1⟩=>?_) hs rfl))
  obtain⟨j,e,q1,q2,q⟩:=q1
  subst e
  cases r1 with
  | cons r rr=>
    cases rr
    obtain⟨t,rfl⟩:=r
    exact call_range_1 (range_it I1 (by omega) (by omega) q1 q2 (by simpa using q))
def tFor (wi:TI) (g:TG) (tb:TS):TS:=fun D σ H=>wi σ H fun J H1=>∃ W:Nat->Nat->St->Hp->Prop,(∃ m,W 0 m σ H1)/\∀ i m σ H,W i m σ H ->
  (J.stop i H/\D.nx σ H)\/(J.go i H/\∃ N:St->Hp->Prop,(∀ σ' H',N σ' H'->∃ m',m' < m/\W (i+1) m' σ' H')/\∀ x H',J.yld i H x H'->g x σ H' fun σ2 H2=>tb { D with nx:=N,ct:=N,bk:=D.nx } σ2 H2)
noncomputable def pinsAt (fp:List Addr) (h:Heap):List (Addr × Obj):=fp.filterMap fun b=>(h.get? b).map fun o=>(b,o)
theorem mem_pinsAt {fp:List Addr} {h:Heap} {b:Addr} {o:Obj} (hb:b ∈ fp) (e:h.get? b=some o):(b,o) ∈ pinsAt fp h:=List.mem_filterMap.mpr ⟨b,hb,by rw[e];rfl⟩
theorem of_pinsAt {fp:List Addr} {h:Heap} {p:Addr × Obj} (hp:p ∈ pinsAt fp h):p.1 ∈ fp/\h.get? p.1=some p.2:=by
  obtain⟨b,hb,e⟩:=List.mem_filterMap.mp hp
  cases q:h.get? b with
  | none=>rw[q] at e;cases e
  | some o=>
    rw[q] at e
    have e':(b,o)=p:=Option.some.inj e
    subst e'
    exact⟨hb,q⟩
theorem Inv.pinned {pins:List (Addr × Obj)} {σ:St} {H:Hp} {s:Shared} {fp:List Addr} (I:Inv X pins σ H s) (hf:∀ b ∈ fp,FpOk X pins H b) (ho:∀ b ∈ fp,∃ o,s.heap.get? b=some o/\∀ v,o.data ≠ .cell v):Inv X (pins++pinsAt fp s.heap) σ H s:=
  I.pins_of fun p hp=>(List.mem_append.mp hp).elim (fun z=>I.pin p (List.mem_append_right _ z)) fun z=>by
    obtain⟨hb,e⟩:=of_pinsAt z
    obtain⟨f0,f1,f2,_⟩:=hf p.1 hb
    obtain⟨o,e',d⟩:=ho p.1 hb
    rw[e] at e';cases e'
    exact⟨e,f0,f1,f2,d⟩
theorem Inv.unpinned {pins pl:List (Addr × Obj)} {σ:St} {H:Hp} {s:Shared} (I:Inv X (pins++pl) σ H s):Inv X pins σ H s:=I.pins_of fun p hp=>I.pin p (List.mem_append_right _ (List.mem_append_left _ hp))
theorem ps_for {iter:Expr} {body:List Stmt} {wi:TI} {g:TG} {tb:TS} {pos:Pos} (hp:PassesOwn (model X.prog X.w) X.A X.env X.xe) (hc:X.calm=true) (hi:PI X tg iter wi) (hg:PG X tg g) (hb:PSs X body tb)
    (hs:∀ x,foldedSetIterable iter X.env x=pure x:=by intro _;rfl):PS X (.For tg iter body [] pos) (tFor wi g tb):=by
  intro pins s σ H D I h
  refine wpAny_For (thn (hi pins s σ H _ I h) fun v s1 h1=>thn h1 fun itv s2 h2=>?_) hs
  obtain⟨it,fp,tn,J,H2,e,I2,T,st2,f2,W,⟨m0,w0⟩,turn⟩:=h2
  subst e
  have stat:∀ {H':Hp},(∀ b ∈ fp,H' b=none)->∀ b ∈ fp,FpOk X pins H' b:=fun hn b hb=>⟨hn b hb,(f2 b hb).2⟩
  refine codeAny_forLoop_any (fun n s'=>∃ i σ' H',Inv X pins σ' H' s'/\tn i s'.heap/\(∀ b ∈ fp,H' b=none)/\W i n σ' H') ?_ m0 ⟨0,σ,H2,I2,st2,fun b hb=>(f2 b hb).1,w0⟩
  rintro n s3 ⟨i,σ3,H3,I3,st3,fr3,w3⟩
  rcases turn i n σ3 H3 w3 with ⟨stop,qn⟩ | ⟨go,N,hN,step⟩
  · refine wpAny_passesOwn hp (thn (T.done X rfl rfl rfl hc i pins s3 σ3 H3 X.xe I3 (stat fr3) st3 stop) fun r s4 ⟨hr,I4⟩=>?_)
    subst hr
    exact wpAny_execs_nil ⟨σ3,H3,I4,qn⟩
  · refine wpAny_passesOwn hp (thn (T.item X rfl rfl rfl hc i pins s3 σ3 H3 X.xe I3 (stat fr3) st3 go) fun r s4 ⟨u,hr,h4⟩=>?_)
    subst hr
    refine wpAny_passesOwn hp (thn h4 fun _ s5 ⟨x,H5,I5,r5,y5,st5,fr5⟩=>?_)
    have I5':=I5.pinned (stat fr5) (T.obj _ _ st5)
    refine wpAny_passesOwn hp (thn (hg _ s5 σ3 H5 x u _ I5' r5 (step x H5 y5)) fun _ s6 ⟨σ6,H6,I6,q6⟩=>?_)
    refine wpAny_passesOwn hp (thn (hb _ s6 σ6 H6 _ I6 q6) fun f s7 q7=>?_)
    have again:∀ {σ7:St} {H7:Hp},Inv X (pins++pinsAt fp s5.heap) σ7 H7 s7->N σ7 H7->∃ m,m < n/\∃ i σ' H',Inv X pins σ' H' s7/\tn i s7.heap/\(∀ b ∈ fp,H' b=none)/\W i m σ' H':=fun {σ7 H7} I7 n7=>by
      obtain⟨m',hm,w7⟩:=hN σ7 H7 n7
      refine⟨m',hm,i+1,σ7,H7,I7.unpinned,T.keep _ _ _ st5 fun b hb o e=>(I7.pin (b,o) (List.mem_append_right _ (List.mem_append_right _ (mem_pinsAt hb e)))).1,fun b hb=>?_,w7⟩
      obtain⟨o,e,d⟩:=T.obj _ _ st5 b hb
      exact (I7.pin (b,o) (List.mem_append_right _ (List.mem_append_right _ (mem_pinsAt hb e)))).2.1
    cases f with
    | next=>obtain⟨σ7,H7,I7,n7⟩:=q7;exact again I7 n7
    | cont=>obtain⟨σ7,H7,I7,n7⟩:=q7;exact again I7 n7
    | brk=>obtain⟨σ7,H7,I7,q7⟩:=q7;exact⟨σ7,H7,I7.unpinned,q7⟩
    | ret v=>obtain⟨x7,σ7,H7,I7,r7,q7⟩:=q7;exact⟨x7,σ7,H7,I7.unpinned,r7,q7⟩
end
theorem for_list {K:PySem.W.Frag} {a:Addr} {xs:List V} {g:TG} {tb:TS} {D:Ends} {σ:St} {H:Hp} (Pv:Nat->St->Hp->Prop) (h0:Pv 0 σ H) (hl:∀ i σ H,i <= xs.length->Pv i σ H->SqL K H a xs)
    (hs:∀ i x σ H,xs[i]?=some x->Pv i σ H->g x σ H fun σ2 H2=>tb { D with nx:=Pv (i+1),ct:=Pv (i+1),bk:=D.nx } σ2 H2) (hd:∀ σ H,Pv xs.length σ H->D.nx σ H) :
    ∃ W:Nat->Nat->St->Hp->Prop,(∃ m,W 0 m σ H)/\∀ i m σ H,W i m σ H ->
      ((Itl K a).stop i H/\D.nx σ H)\/((Itl K a).go i H/\∃ N:St->Hp->Prop,(∀ σ' H',N σ' H'->∃ m',m' < m/\W (i+1) m' σ' H')/\∀ x H',(Itl K a).yld i H x H'->g x σ H' fun σ2 H2=>tb { D with nx:=N,ct:=N,bk:=D.nx } σ2 H2):=by
  refine⟨fun i m σ H=>m=xs.length - i/\i <= xs.length/\Pv i σ H,⟨xs.length,by simp,Nat.zero_le _,h0⟩,?_⟩
  rintro i m σ H ⟨rfl,hi,p⟩
  have q:=hl i σ H hi p
  by_cases hlt:i < xs.length
  · refine .inr ⟨⟨xs,xs[i],q,by simp[hlt]⟩,Pv (i+1),fun σ' H' p'=>⟨xs.length - (i+1),by omega,rfl,hlt,p'⟩,fun x H' y=>?_⟩
    obtain⟨e,y⟩:=y
    subst e
    exact hs i x σ _ (y xs q) p
  · have e:i=xs.length:=by omega
    subst e
    exact .inl ⟨⟨xs,q,Nat.le_refl _⟩,hd σ H p⟩
theorem for_tup {K:PySem.W.Frag} {a:Addr} {xs:List V} {g:TG} {tb:TS} {D:Ends} {σ:St} {H:Hp} (Pv:Nat->St->Hp->Prop) (h0:Pv 0 σ H) (hl:∀ i σ H,i <= xs.length->Pv i σ H->SqT K H a xs)
    (hs:∀ i x σ H,xs[i]?=some x->Pv i σ H->g x σ H fun σ2 H2=>tb { D with nx:=Pv (i+1),ct:=Pv (i+1),bk:=D.nx } σ2 H2) (hd:∀ σ H,Pv xs.length σ H->D.nx σ H) :
    ∃ W:Nat->Nat->St->Hp->Prop,(∃ m,W 0 m σ H)/\∀ i m σ H,W i m σ H ->
      ((Itt K a).stop i H/\D.nx σ H)\/((Itt K a).go i H/\∃ N:St->Hp->Prop,(∀ σ' H',N σ' H'->∃ m',m' < m/\W (i+1) m' σ' H')/\∀ x H',(Itt K a).yld i H x H'->g x σ H' fun σ2 H2=>tb { D with nx:=N,ct:=N,bk:=D.nx } σ2 H2):=by
  refine⟨fun i m σ H=>m=xs.length - i/\i <= xs.length/\Pv i σ H,⟨xs.length,by simp,Nat.zero_le _,h0⟩,?_⟩
  rintro i m σ H ⟨rfl,hi,p⟩
  have q:=hl i σ H hi p
  by_cases hlt:i < xs.length
  · refine .inr ⟨⟨xs,xs[i],q,by simp[hlt]⟩,Pv (i+1),fun σ' H' p'=>⟨xs.length - (i+1),by omega,rfl,hlt,p'⟩,fun x H' y=>?_⟩
    obtain⟨e,y⟩:=y
    subst e
    exact hs i x σ _ (y xs q) p
  · have e:i=xs.length:=by omega
    subst e
    exact .inl ⟨⟨xs,q,Nat.le_refl _⟩,hd σ H p⟩
theorem for_range {lo:Int} {n:Nat} {g:TG} {tb:TS} {D:Ends} {σ:St} {H:Hp} (Pv:Nat->St->Hp->Prop) (h0:Pv 0 σ H)
    (hs:∀ i σ H,i < n->Pv i σ H->g (.int (lo+i)) σ H fun σ2 H2=>tb { D with nx:=Pv (i+1),ct:=Pv (i+1),bk:=D.nx } σ2 H2) (hd:∀ σ H,Pv n σ H->D.nx σ H) :
    ∃ W:Nat->Nat->St->Hp->Prop,(∃ m,W 0 m σ H)/\∀ i m σ H,W i m σ H ->
      ((Itr lo n).stop i H/\D.nx σ H)\/((Itr lo n).go i H/\∃ N:St->Hp->Prop,(∀ σ' H',N σ' H'->∃ m',m' < m/\W (i+1) m' σ' H')/\∀ x H',(Itr lo n).yld i H x H'->g x σ H' fun σ2 H2=>tb { D with nx:=N,ct:=N,bk:=D.nx } σ2 H2):=by
  refine⟨fun i m σ H=>m=n - i/\i <= n/\Pv i σ H,⟨n,by simp,Nat.zero_le _,h0⟩,?_⟩
  rintro i m σ H ⟨rfl,hi,p⟩
  by_cases hlt:i < n
  · refine .inr ⟨hlt,Pv (i+1),fun σ' H' p'=>⟨n - (i+1),by omega,rfl,hlt,p'⟩,fun x H' y=>?_⟩
    obtain⟨e,y⟩:=y
    subst e y
    exact hs i σ _ hlt p
  · have e:i=n:=by omega
    subst e
    exact .inl ⟨Nat.le_refl _,hd σ H p⟩
end L2
namespace L2
open PySem PySem.Spec PyProof.Rows
abbrev R2:=V->V->Hp->VK->Prop
def OpR (X:Cx) (f:Value->Value->Sem Value) (r:R2):Prop:=
  ∀ (pins:List (Addr × Obj)) (s:Shared) (σ:St) (H:Hp) (x y:V) (v u:Value) (Q:VK),Inv X pins σ H s->RelV x v->RelV y u->r x y H Q ->
    wpAny (model X.prog X.w) X.A (f v u) (EP X pins σ Q) X.xe s
def UnR (X:Cx) (f:Value->Sem Value) (r:V->Hp->VK->Prop):Prop:=
  ∀ (pins:List (Addr × Obj)) (s:Shared) (σ:St) (H:Hp) (x:V) (v:Value) (Q:VK),Inv X pins σ H s->RelV x v->r x H Q ->
    wpAny (model X.prog X.w) X.A (f v) (EP X pins σ Q) X.xe s
def CallR (X:Cx) (f:Value) (r:List V->Hp->VK->Prop):Prop:=
  ∀ (pins:List (Addr × Obj)) (s:Shared) (σ:St) (H:Hp) (xs:List V) (us:List Value) (Q:VK),Inv X pins σ H s->Vals xs us->r xs H Q ->
    wpAny (model X.prog X.w) X.A (call f us) (EP X pins σ Q) X.xe s
def tOp (r:R2) (ta tb:TE):TE:=fun σ H Q=>ta σ H fun x H1=>tb σ H1 fun y H2=>r x y H2 Q
def tUn (r:V->Hp->VK->Prop) (ta:TE):TE:=fun σ H Q=>ta σ H fun x H1=>r x H1 Q
noncomputable def rI (C:Int->Int->Prop) (g:Int->Int->V):R2:=fun x y H Q=>∃ i j,x=.int i/\y=.int j/\C i j/\Q (g i j) H
noncomputable def rI0 (g:Int->Int->V):R2:=fun x y H Q=>∃ i j,x=.int i/\y=.int j/\Q (g i j) H
def rU (g:Int->V):V->Hp->VK->Prop:=fun x H Q=>∃ i,x=.int i/\Q (g i) H
section
variable {X:Cx} {a b c:Expr} {ta tb tc:TE} {pos:Pos}
theorem binT (ha:PE X a ta) (hb:PE X b tb) {pins:List (Addr × Obj)} {s:Shared} {σ:St} {H:Hp} {R:V->V->Hp->Prop} (I:Inv X pins σ H s)
    (h:ta σ H fun x H1=>tb σ H1 fun y H2=>R x y H2) {Q:Value->Shared->Prop} {f:Value->Value->Sem Value}
    (hf:∀ v u s2 x y H2,Inv X pins σ H2 s2->RelV x v->RelV y u->R x y H2->wpAny (model X.prog X.w) X.A (f v u) Q X.xe s2) :
    wpAny (model X.prog X.w) X.A (eval a X.env) (fun v s₁=>wpAny (model X.prog X.w) X.A (eval b X.env) (fun u s₂=>wpAny (model X.prog X.w) X.A (f v u) Q X.xe s₂) X.xe s₁) X.xe s:=by
  refine thn (ha pins s σ H _ I h) fun v s1 ⟨x,H1,I1,r1,q1⟩=>?_
  refine thn (hb pins s1 σ H1 _ I1 q1) fun u s2 ⟨y,H2,I2,r2,q2⟩=>?_
  exact hf v u s2 x y H2 I2 r1 r2 q2
theorem pe_op {op:Operator} {r:R2} (ho:OpR X (binaryOp op) r) (ha:PE X a ta) (hb:PE X b tb):PE X (.BinOp a op b pos) (tOp r ta tb):=by
  intro pins s σ H Q I h
  exact wpAny_BinOp (binT ha hb I h fun v u s2 x y H2 I2 rx ry q=>ho pins s2 σ H2 x y v u Q I2 rx ry q)
theorem pe_un {op:UnaryOp} {r:V->Hp->VK->Prop} (ho:UnR X (unaryOp op) r) (ha:PE X a ta):PE X (.UnaryOp op a pos) (tUn r ta):=by
  intro pins s σ H Q I h
  exact UnaryOp_ (thn (ha pins s σ H _ I h) fun v s1 ⟨x,H1,I1,r1,q1⟩=>ho pins s1 σ H1 x v Q I1 r1 q1)
theorem opI {f:Value->Value->Sem Value} {C:Int->Int->Prop} {g:Int->Int->Int}
    (rule:∀ (i j:Int) (t u:Tok) (s:Shared) (Q:Value->Shared->Prop) (E:Value->Shared->Prop),C i j->Q (.int (g i j) s.toks) { s with toks:=s.toks+1 }->wpAny (model X.prog X.w) X.A (f (.int i t) (.int j u)) Q E s) :
    OpR X f (rI C fun i j=>.int (g i j)):=by
  intro pins s σ H x y v u Q I rx ry h
  obtain⟨i,j,rfl,rfl,hc,q⟩:=h
  obtain⟨t,rfl⟩:=rx
  obtain⟨t',rfl⟩:=ry
  exact rule i j t t' s _ _ hc ⟨.int (g i j),H,I.tok _,⟨_,rfl⟩,q⟩
theorem opI0 {f:Value->Value->Sem Value} {g:Int->Int->Int}
    (rule:∀ (i j:Int) (t u:Tok) (s:Shared) (Q:Value->Shared->Prop) (E:Value->Shared->Prop),Q (.int (g i j) s.toks) { s with toks:=s.toks+1 }->wpAny (model X.prog X.w) X.A (f (.int i t) (.int j u)) Q E s) :
    OpR X f (rI0 fun i j=>.int (g i j)):=by
  intro pins s σ H x y v u Q I rx ry h
  obtain⟨i,j,rfl,rfl,q⟩:=h
  obtain⟨t,rfl⟩:=rx
  obtain⟨t',rfl⟩:=ry
  exact rule i j t t' s _ _ ⟨.int (g i j),H,I.tok _,⟨_,rfl⟩,q⟩
theorem opB0 {f:Value->Value->Sem Value} {g:Int->Int->Bool}
    (rule:∀ (i j:Int) (t u:Tok) (s:Shared) (Q:Value->Shared->Prop) (E:Value->Shared->Prop),Q (.bool (g i j)) s->wpAny (model X.prog X.w) X.A (f (.int i t) (.int j u)) Q E s) :
    OpR X f (rI0 fun i j=>.bl (g i j)):=by
  intro pins s σ H x y v u Q I rx ry h
  obtain⟨i,j,rfl,rfl,q⟩:=h
  obtain⟨t,rfl⟩:=rx
  obtain⟨t',rfl⟩:=ry
  exact rule i j t t' s _ _ ⟨.bl (g i j),H,I,rfl,q⟩
def CDiv (i j:Int):Prop:=0 < j/\j < 1073741824
def CPow (i j:Int):Prop:=0 <= j/\j <= 1000000/\i.natAbs < 2 ^ 64
def CMul (i j:Int):Prop:=(-(2 ^ 64) < i/\i < 2 ^ 64)\/(-(2 ^ 64) < j/\j < 2 ^ 64)
theorem CMul.ok {i j:Int} (h:CMul i j):IntMulOk i j:=by
  rcases h with ⟨h1,h2⟩ | ⟨h1,h2⟩
  · exact .of_left (intBits_le_64 h1 h2)
  · exact .of_right (intBits_le_64 h1 h2)
theorem op_add:OpR X (binaryOp .Add) (rI0 fun i j=>.int (i+j)):=opI0 fun _ _ _ _ _ _ _ q=>add_int q
theorem op_sub:OpR X (binaryOp .Sub) (rI0 fun i j=>.int (i - j)):=opI0 fun _ _ _ _ _ _ _ q=>sub_int q
theorem op_mul:OpR X (binaryOp .Mult) (rI CMul fun i j=>.int (i * j)):=opI fun _ _ _ _ _ _ _ hc q=>mul_int q hc.ok
theorem op_fdiv:OpR X (binaryOp .FloorDiv) (rI CDiv fun i j=>.int (i / j)):=opI fun i j _ _ _ _ _ hc q=>by
  have h1:(0:Int) < j:=hc.1
  have h2:j < 1073741824:=hc.2
  exact floordiv_int (by omega) (by rw[Int.fdiv_eq_ediv_of_nonneg i (by omega)];exact q) (.inl (PyProof.noPylong_small (by omega)))
theorem op_mod:OpR X (binaryOp .Mod) (rI (fun _ j=>0 < j) fun i j=>.int (i % j)):=opI fun i j _ _ _ _ _ hc q=>by
  have h1:(0:Int) < j:=hc
  exact mod_int' (by omega) (by rw[Int.fmod_eq_emod_of_nonneg i (by omega)];exact q)
theorem op_pow:OpR X (binaryOp .Pow) (rI CPow fun i j=>.int (i ^ j.toNat)):=opI fun _ _ _ _ _ _ _ hc q=>pow_int_small hc.1 hc.2.1 hc.2.2 q
theorem unI {f:Value->Sem Value} {g:Int->Int}
    (rule:∀ (i:Int) (t:Tok) (s:Shared) (Q:Value->Shared->Prop) (E:Value->Shared->Prop),Q (.int (g i) s.toks) { s with toks:=s.toks+1 }->wpAny (model X.prog X.w) X.A (f (.int i t)) Q E s) :
    UnR X f (rU fun i=>.int (g i)):=by
  intro pins s σ H x v Q I rx h
  obtain⟨i,rfl,q⟩:=h
  obtain⟨t,rfl⟩:=rx
  exact rule i t s _ _ ⟨.int (g i),H,I.tok _,⟨_,rfl⟩,q⟩
theorem un_neg:UnR X (unaryOp .USub) (rU fun i=>.int (-i)):=unI fun _ _ _ _ _ q=>neg_int q
end
noncomputable def scal:V->V->Bool
  | .non,.non=>true | .non,.int _=>true | .int _,.non=>true | .non,.bl _=>true | .bl _,.non=>true | .non,.str _=>true | .str _,.non=>true
  | .int _,.int _=>true | .bl _,.bl _=>true | .str _,.str _=>true | .byt _,.byt _=>true
  | .int _,.str _=>true | .str _,.int _=>true | .bl _,.str _=>true | .str _,.bl _=>true
  | _,_=>false
noncomputable def rEq:R2:=fun x y H Q=>scal x y=true/\Q (.bl (decide (x=y))) H
noncomputable def rNe:R2:=fun x y H Q=>scal x y=true/\Q (.bl (!decide (x=y))) H
theorem dec_int {i j:Int}:decide (V.int i=V.int j)=(i == j):=by
  rw[Bool.eq_iff_iff]
  simp
theorem dec_bl {i j:Bool}:decide (V.bl i=V.bl j)=(i == j):=by
  rw[Bool.eq_iff_iff]
  simp
theorem dec_str {i j:Str}:decide (V.str i=V.str j)=(i == j):=by
  rw[Bool.eq_iff_iff]
  simp
theorem dec_byt {i j:Array UInt8}:decide (V.byt i=V.byt j)=(i.toList == j.toList):=by
  rw[Bool.eq_iff_iff]
  cases i
  cases j
  simp
section
variable {X:Cx} {a b c:Expr} {ta tb tc:TE} {pos:Pos}
theorem fin_bl {pins:List (Addr × Obj)} {σ:St} {H:Hp} {s:Shared} {Q:VK} {k k':Bool} (I:Inv X pins σ H s) (q:Q (.bl k) H) (e:k=k'):EP X pins σ Q (.bool k') s:=by
  subst e
  exact⟨.bl k,H,I,rfl,q⟩
theorem op_eq:OpR X (compareOp .Eq) rEq:=by
  intro pins s σ H x y v u Q I rx ry h
  obtain⟨hs,q⟩:=h
  cases x with
  | non=>
    cases rx
    cases y with
    | non=>cases ry;exact PySem.EqNone.eq_none_none (fin_bl I q (by simp))
    | bl j=>cases ry;exact PySem.EqNone.eq_none_bool (fin_bl I q (by simp))
    | int j=>obtain⟨t',rfl⟩:=ry;exact PySem.EqNone.eq_none_int (fin_bl I q (by simp))
    | str j=>obtain⟨t',rfl⟩:=ry;exact PySem.EqNone.eq_none_str (fin_bl I q (by simp))
    | _=>exact absurd (show false=true from hs) Bool.false_ne_true
  | bl i=>
    cases rx
    cases y with
    | non=>cases ry;exact PySem.EqNone.eq_bool_none (fin_bl I q (by simp))
    | bl j=>cases ry;exact eq_bool (fin_bl I q dec_bl)
    | str j=>obtain⟨t',rfl⟩:=ry;exact PySem.EqMixed.eq_bool_str (fin_bl I q (by simp))
    | _=>exact absurd (show false=true from hs) Bool.false_ne_true
  | int i=>
    obtain⟨t,rfl⟩:=rx
    cases y with
    | non=>cases ry;exact PySem.EqNone.eq_int_none (fin_bl I q (by simp))
    | int j=>obtain⟨t',rfl⟩:=ry;exact eq_int (fin_bl I q dec_int)
    | str j=>obtain⟨t',rfl⟩:=ry;exact PySem.EqMixed.eq_int_str (fin_bl I q (by simp))
    | _=>exact absurd (show false=true from hs) Bool.false_ne_true
  | str i=>
    obtain⟨t,rfl⟩:=rx
    cases y with
    | non=>cases ry;exact PySem.EqNone.eq_str_none (fin_bl I q (by simp))
    | bl j=>cases ry;exact PySem.EqMixed.eq_str_bool (fin_bl I q (by simp))
    | int j=>obtain⟨t',rfl⟩:=ry;exact PySem.EqMixed.eq_str_int (fin_bl I q (by simp))
    | str j=>obtain⟨t',rfl⟩:=ry;exact eq_str (fin_bl I q dec_str)
    | _=>exact absurd (show false=true from hs) Bool.false_ne_true
  | byt i=>
    obtain⟨t,rfl⟩:=rx
    cases y with
    | byt j=>obtain⟨t',rfl⟩:=ry;exact PySem.W.eq_bytes (fin_bl I q dec_byt)
    | _=>exact absurd (show false=true from hs) Bool.false_ne_true
  | _=>cases y <;> exact absurd (show false=true from hs) Bool.false_ne_true
theorem op_ne:OpR X (compareOp .NotEq) rNe:=by
  intro pins s σ H x y v u Q I rx ry h
  obtain⟨hs,q⟩:=h
  cases x with
  | non=>
    cases rx
    cases y with
    | non=>cases ry;exact PySem.EqNone.ne_none_none (fin_bl I q (by simp))
    | bl j=>cases ry;exact PySem.EqNone.ne_none_bool (fin_bl I q (by simp))
    | int j=>obtain⟨t',rfl⟩:=ry;exact PySem.EqNone.ne_none_int (fin_bl I q (by simp))
    | str j=>obtain⟨t',rfl⟩:=ry;exact PySem.EqNone.ne_none_str (fin_bl I q (by simp))
    | _=>exact absurd (show false=true from hs) Bool.false_ne_true
  | bl i=>
    cases rx
    cases y with
    | non=>cases ry;exact PySem.EqNone.ne_bool_none (fin_bl I q (by simp))
    | bl j=>cases ry;exact ne_bool (fin_bl I q (congrArg not dec_bl))
    | str j=>obtain⟨t',rfl⟩:=ry;exact PySem.EqMixed.ne_bool_str (fin_bl I q (by simp))
    | _=>exact absurd (show false=true from hs) Bool.false_ne_true
  | int i=>
    obtain⟨t,rfl⟩:=rx
    cases y with
    | non=>cases ry;exact PySem.EqNone.ne_int_none (fin_bl I q (by simp))
    | int j=>obtain⟨t',rfl⟩:=ry;exact ne_int (fin_bl I q (congrArg not dec_int))
    | str j=>obtain⟨t',rfl⟩:=ry;exact PySem.EqMixed.ne_int_str (fin_bl I q (by simp))
    | _=>exact absurd (show false=true from hs) Bool.false_ne_true
  | str i=>
    obtain⟨t,rfl⟩:=rx
    cases y with
    | non=>cases ry;exact PySem.EqNone.ne_str_none (fin_bl I q (by simp))
    | bl j=>cases ry;exact PySem.EqMixed.ne_str_bool (fin_bl I q (by simp))
    | int j=>obtain⟨t',rfl⟩:=ry;exact PySem.EqMixed.ne_str_int (fin_bl I q (by simp))
    | str j=>obtain⟨t',rfl⟩:=ry;exact ne_str (fin_bl I q (congrArg not dec_str))
    | _=>exact absurd (show false=true from hs) Bool.false_ne_true
  | byt i=>
    obtain⟨t,rfl⟩:=rx
    cases y with
    | byt j=>obtain⟨t',rfl⟩:=ry;exact PySem.W.ne_bytes (fin_bl I q (congrArg not dec_byt))
    | _=>exact absurd (show false=true from hs) Bool.false_ne_true
  | _=>cases y <;> exact absurd (show false=true from hs) Bool.false_ne_true
theorem op_lt:OpR X (compareOp .Lt) (rI0 fun i j=>.bl (decide (i < j))):=opB0 fun _ _ _ _ _ _ _ q=>lt_int q
theorem op_gt:OpR X (compareOp .Gt) (rI0 fun i j=>.bl (decide (j < i))):=opB0 fun _ _ _ _ _ _ _ q=>gt_int q
theorem nomark (b:Expr) {op:CmpOp} (h:op ≠ .In:=by decide) (h2:op ≠ .NotIn:=by decide):behindInMarks op b=false:=by
  have e1:(op == CmpOp.In)=false:=by cases op <;> first | rfl | exact absurd rfl h
  have e2:(op == CmpOp.NotIn)=false:=by cases op <;> first | rfl | exact absurd rfl h2
  cases b <;> simp[behindInMarks,e1,e2]
theorem pe_cmpR {op:CmpOp} {r:R2} (ho:OpR X (compareOp op) r) (ha:PE X a ta) (hb:PE X b tb) (hm:behindInMarks op b=false):PE X (.Compare a [op] [b] pos) (tOp r ta tb):=by
  intro pins s σ H Q I h
  exact wpAny_Compare1 (binT ha hb I h fun v u s2 x y H2 I2 rx ry q=>ho pins s2 σ H2 x y v u Q I2 rx ry q) hm
def tTest (t:TE):TT:=fun σ H Q=>t σ H fun x H'=>∃ k,x=.bl k/\Q k H'
theorem pt_cmpR {op:CmpOp} {r:R2} (ho:OpR X (compareOp op) r) (ha:PE X a ta) (hb:PE X b tb) (hm:behindInMarks op b=false):PT X (.Compare a [op] [b] pos) (tTest (tOp r ta tb)):=by
  intro pins s σ H Q I h
  refine wpAny_isTrue_Compare1 (thn (ha pins s σ H _ I h) fun v s1 ⟨x,H1,I1,r1,q1⟩=>thn (hb pins s1 σ H1 _ I1 q1) fun u s2 ⟨y,H2,I2,r2,q2⟩=>
    thn (ho pins s2 σ H2 x y v u _ I2 r1 r2 q2) fun c s3 ⟨z,H3,I3,r3,k,e,q3⟩=>?_) hm
  subst e
  cases r3
  exact wpAny_truthy_bool ⟨H3,I3,q3⟩
theorem line63:(sizeLine:Nat) < 2 ^ 63:=by rw[sizeLine_eq];decide
theorem op_add_str:OpR X (binaryOp .Add) (fun x y H Q=>∃ i j,x=.str i/\y=.str j/\i.length+j.length <= sizeLine/\Q (.str (i++j)) H):=by
  intro pins s σ H x y v u Q I rx ry h
  obtain⟨i,j,rfl,rfl,hz,q⟩:=h
  obtain⟨t,rfl⟩:=rx
  obtain⟨t',rfl⟩:=ry
  exact add_str (fun t' tk=>⟨.str (i++j),H,I.tok _,⟨_,rfl⟩,q⟩) hz
theorem vals1 {x:V} {us:List Value} (r:Vals [x] us):∃ u,us=[u]/\RelV x u:=by
  cases r with
  | cons r1 r2=>cases r2;exact⟨_,rfl,r1⟩
theorem vals2 {x y:V} {us:List Value} (r:Vals [x,y] us):∃ u w',us=[u,w']/\RelV x u/\RelV y w':=by
  cases r with
  | cons r1 r2=>
    cases r2 with
    | cons r3 r4=>cases r4;exact⟨_,_,rfl,r1,r3⟩
theorem call_max2 (hc:X.calm=true):CallR X (.builtin "max") (fun xs H Q=>∃ i j,xs=[.int i,.int j]/\Q (.int (if j > i then j else i)) H):=by
  intro pins s σ H xs us Q I r h
  obtain⟨i,j,rfl,q⟩:=h
  obtain⟨u,w',rfl,⟨t,rfl⟩,⟨t',rfl⟩⟩:=vals2 r
  refine max_two_ints (I.ok.hd hc) fun h' tk k=>⟨_,H,I.kept k,?_,q⟩
  by_cases hj:j > i
  · rw[if_pos hj,if_pos hj];exact⟨_,rfl⟩
  · rw[if_neg hj,if_neg hj];exact⟨_,rfl⟩
theorem call_min2 (hc:X.calm=true):CallR X (.builtin "min") (fun xs H Q=>∃ i j,xs=[.int i,.int j]/\Q (.int (if j < i then j else i)) H):=by
  intro pins s σ H xs us Q I r h
  obtain⟨i,j,rfl,q⟩:=h
  obtain⟨u,w',rfl,⟨t,rfl⟩,⟨t',rfl⟩⟩:=vals2 r
  refine min_two_ints (I.ok.hd hc) fun h' tk k=>⟨_,H,I.kept k,?_,q⟩
  by_cases hj:j < i
  · rw[if_pos hj,if_pos hj];exact⟨_,rfl⟩
  · rw[if_neg hj,if_neg hj];exact⟨_,rfl⟩
theorem call_int1:CallR X (.type "int") (fun xs H Q=>(∃ i,xs=[.int i]/\Q (.int i) H)\/∃ k,xs=[.bl k]/\Q (.int (if k then 1 else 0)) H):=by
  intro pins s σ H xs us Q I r h
  rcases h with ⟨i,rfl,q⟩ | ⟨k,rfl,q⟩
  · obtain⟨u,rfl,t,rfl⟩:=vals1 r
    exact call_int_int ⟨.int i,H,I,⟨_,rfl⟩,q⟩
  · obtain⟨u,rfl,r1⟩:=vals1 r
    cases r1
    exact call_int_bool ⟨.int (if k then 1 else 0),H,I.tok _,⟨_,rfl⟩,q⟩
end
end L2
namespace L2
open PySem PySem.Spec PyProof.Rows
structure ObjM (h:Heap) (x dx C:Addr) (mA:Str->Option Value):Prop where
  obj:h.get? x=some (PySem.W.instObj C dx)
  ns:h.Ns1 dx mA
  ne:dx ≠ x
theorem lookIn_ns {h:Heap} {dx:Addr} {mA:Str->Option Value} (n:h.Ns1 dx mA):∃ od,h.get? dx=some od/\∀ name,PySem.W.lookIn name od=some (mA name):=by
  obtain⟨o,es,ep,ho,hd,hk,_,hm⟩:=n
  refine⟨o,ho,fun name=>?_⟩
  have e:=hm name
  unfold nsFind findBy at e
  rw[<- Array.find?_toList] at e
  unfold PySem.W.lookIn
  rw[hd]
  dsimp only
  split
  · rename_i y q
    rw[q] at e
    exact congrArg some e
  · rename_i q
    rw[q] at e
    have a:es.toList.any (·.refKey)=false:=by
      rw[List.any_eq_false]
      intro y hy
      obtain⟨z,t,hkey⟩:=hk y (Array.mem_toList_iff.mp hy)
      simp[DictEntry.refKey,hkey]
    have a':¬ es.toList.any (·.refKey)=true:=by rw[a];exact Bool.false_ne_true
    rw[if_neg a']
    exact congrArg some e
theorem ObjM.look {h:Heap} {x dx C:Addr} {mA:Str->Option Value} (I:ObjM h x dx C mA):∃ od,PySem.W.InstAt h x (PySem.W.instObj C dx) C (some od)/\∀ name,PySem.W.lookIn name od=some (mA name):=
  let ⟨od,ho,hl⟩:=lookIn_ns I.ns
  ⟨od,⟨I.obj,rfl,rfl,ho⟩,hl⟩
section
variable {prog:Program} {w:World} {A:Around} {E:Value->Shared->Prop} {s:Shared} {K:PySem.W.Frag} {x dx C f:Addr} {mA:Str->Option Value} {name:Str} {v:Value}
end
theorem RelO.some_of {v:V} {o:Option Value} (r:RelO (some v) o):∃ u,o=some u/\RelV v u:=by
  cases o with
  | none=>exact (show False from r).elim
  | some u=>exact⟨u,rfl,r⟩
section
variable {P:Program} {w:World} {H H':Hp} {h h':Heap} {a C dx:Addr} {fs fs':List (Str × V)}
theorem ins_get (hok:HOk P w H h) (e:H a=some (.ins C dx fs)):∃ mA,ObjM h a dx C mA/\(∀ f,RelO (fs.lookup f) (mA f))/\PySem.Within mA (fs.map (·.1))/\fs.length <= 1000/\H dx=some (.own a):=by
  obtain⟨d,z,ne,ob,mA,n,r,q⟩:=(show ObjOk P w H h a (.ins C dx fs) from hok a _ e)
  exact⟨mA,⟨ob,n,ne⟩,r,q,z,d⟩
end
structure Cls (K:PySem.W.Frag) (C:Addr):Prop where
  pg:PySem.W.plainGet K C Str.empty=true
  hd:PySem.W.hasDictIn K C=true
  po:PySem.W.plainOver K C=true
  sa:PySem.W.findIn K (.ref C) "__setattr__" = some (some (.builtin "object.__setattr__"))
theorem Cls.get {K:PySem.W.Frag} {C:Addr} (c:Cls K C) (f:Str):PySem.W.plainGet K C f=true:=c.pg
section
variable {X:Cx} {pins:List (Addr × Obj)} {σ:St} {H:Hp} {s:Shared} {a C dx:Addr} {fs:List (Str × V)} {f:Str} {v:V} {A:Around} {E:Value->Shared->Prop}
end
section
variable {X:Cx} {o e value:Expr} {f:Str} {pos pos' tpos:Pos} {ta tv:TE}
end
section
variable {X:Cx} {pins:List (Addr × Obj)} {σ:St} {H:Hp} {s:Shared} {A:Around} {E:Value->Shared->Prop} {Q:Value->Shared->Prop} {c:Value} {b:Bool}
inductive TyOf (K:PySem.W.Frag) (H:Hp):V->Value->Prop where
  | non:TyOf K H .non (.type "NoneType")
  | bl (x:Bool):TyOf K H (.bl x) (.type "bool")
  | int (i:Int):TyOf K H (.int i) (.type "int")
  | str (x:Str):TyOf K H (.str x) (.type "str")
  | flt (x:UInt64):TyOf K H (.flt x) (.type "float")
  | lst {a:Addr} {xs:List V} (e:H a=some (.lst xs)):TyOf K H (.ref a) (.type "list")
  | frz {a:Addr} {o:Obj} {xs:List V} (e:H a=some (.frz o (.lst xs))):TyOf K H (.ref a) (.type "list")
  | tup {a:Addr} {xs:List V} (e:H a=some (.tup xs)):TyOf K H (.ref a) (.type "tuple")
  | dK {a:Addr} {kvs:List (Key × V)} (e:H a=some (.dK kvs)):TyOf K H (.ref a) (.type "dict")
  | dT {a:Addr} {kvs:List (List Key × V)} (e:H a=some (.dT kvs)):TyOf K H (.ref a) (.type "dict")
  | ins {a C dx:Addr} {fs:List (Str × V)} (e:H a=some (.ins C dx fs)) (cl:Cls K C) (ha:PySem.W.findIn K (.ref C) "__class__" = some (some (.builtin "object.__class__")))
      (hn:PySem.W.specialIn K (.builtin "object.__class__") "__get__" = some (some (.builtin "getset_descriptor.__get__"))) (htk:PySem.W.takesIn K (.builtin "object.__class__")=some true)
      (hm:PySem.W.mroIn K C (.type "object")=some true):TyOf K H (.ref a) (.ref C)
theorem isinst_ok {x:V} {u t:Value} (I:Inv X pins σ H s) (rx:RelV x u) (ty:TyOf X.K H x t) (e:PySem.W.kitOne X.K t c=some b) (h:∀ tk,Q (.bool b) { s with toks:=tk }) :
    wpAny (model X.prog X.w) A (call (.builtin "isinstance") [u,c]) Q E s:=by
  cases ty with
  | non=>cases (show u=Value.none from rx);exact PySem.W.kia_one PySem.W.kitx_none I.kIn True.intro e (fun z=>nomatch z) h
  | bl y=>cases (show u=Value.bool y from rx);exact PySem.W.kia_one PySem.W.kitx_bool I.kIn True.intro e (fun z=>nomatch z) h
  | int i=>obtain⟨t,q⟩:=(show ∃ t,u=Value.int i t from rx);cases q;exact PySem.W.kia_one PySem.W.kitx_int I.kIn True.intro e (fun z=>nomatch z) h
  | str y=>obtain⟨t,q⟩:=(show ∃ t,u=Value.str y t from rx);cases q;exact PySem.W.kia_one PySem.W.kitx_str I.kIn True.intro e (fun z=>nomatch z) h
  | flt y=>obtain⟨t,q⟩:=(show ∃ t,u=Value.float y t from rx);cases q;exact PySem.W.kia_one PySem.W.kitx_float I.kIn True.intro e (fun z=>nomatch z) h
  | @lst a xs ea=>
    cases (show u=Value.ref a from rx)
    obtain⟨_,_,n,_,h1⟩:=(show ObjOk X.prog X.w H s.heap a (.lst xs) from I.hok a _ ea)
    exact PySem.W.kia_one PySem.W.kitx_list I.kIn ⟨_,h1,rfl⟩ e (fun z=>nomatch z) h
  | @frz a ob xs ea=>
    cases (show u=Value.ref a from rx)
    obtain⟨_,_,_,n,_,h1⟩:=(show ObjOk X.prog X.w H s.heap a (.frz ob (.lst xs)) from I.hok a _ ea)
    exact PySem.W.kia_one PySem.W.kitx_list I.kIn ⟨_,h1,rfl⟩ e (fun z=>nomatch z) h
  | @tup a xs ea=>
    cases (show u=Value.ref a from rx)
    obtain⟨_,_,_,p⟩:=(show ObjOk X.prog X.w H s.heap a (.tup xs) from I.hok a _ ea)
    obtain⟨o,h1,h2,_⟩:=p
    exact PySem.W.kia_one PySem.W.kitx_tuple I.kIn ⟨o,h1,h2⟩ e (fun z=>nomatch z) h
  | @dK a kvs ea=>
    cases (show u=Value.ref a from rx)
    obtain⟨_,_,vs,_,p⟩:=(show ObjOk X.prog X.w H s.heap a (.dK kvs) from I.hok a _ ea)
    obtain⟨o,es,ep,h1,h2,_⟩:=p
    exact PySem.W.kia_one PySem.W.kitx_dict I.kIn ⟨o,h1,h2.1⟩ e (fun z=>nomatch z) h
  | @dT a kvs ea=>
    cases (show u=Value.ref a from rx)
    obtain⟨_,_,xs,_,o,es,ep,h1,h2,_⟩:=(show ObjOk X.prog X.w H s.heap a (.dT kvs) from I.hok a _ ea)
    exact PySem.W.kia_one PySem.W.kitx_dict I.kIn ⟨o,h1,h2.1⟩ e (fun z=>nomatch z) h
  | @ins a C dx fs ea cl ha hn htk hm=>
    cases (show u=Value.ref a from rx)
    obtain⟨mA,O,_⟩:=ins_get I.hok ea
    obtain⟨od,J,_⟩:=O.look
    exact PySem.W.kia_one (PySem.W.kitx_own (cl.get _) cl.hd ha hn htk hm) I.kIn J e (fun z=>nomatch z) h
end
end L2
namespace L2
open PySem PySem.Spec PyProof.Rows
structure Room (k:Nat) (A:Around):Prop where
  hd:A.handled=none
  dp:A.depth+3 * k+5 < recursionLimit
  un:A.units+16 * k+200 < cLine
  gd:A.guards=some []
theorem Room.mono {j k:Nat} {A:Around} (r:Room k A) (h:j <= k):Room j A:=⟨r.hd,by have:=r.dp;omega,by have:=r.un;omega,r.gd⟩
theorem Room.deeper {k:Nat} {A:Around} (r:Room (k+1) A) (env:Env):Room k (A.deeper env):=
  ⟨r.hd,by have:=r.dp;show A.depth+1+3 * k+5 < _;omega,by have:=r.un;show A.units+3+16 * k+200 < _;omega,by first | exact r.gd | (show pushGuards _ A.guards=_;rw[r.gd];rfl)⟩
theorem Room.depth {k:Nat} {A:Around} (r:Room k A):A.depth < recursionLimit:=by have:=r.dp;omega
theorem Room.units {k:Nat} {A:Around} (r:Room k A):A.units+64 < cLine:=by have:=r.un;omega
noncomputable def tNil:TA:=fun _ H Q=>Q [] H
noncomputable def tCons (ta:TE) (tr:TA):TA:=fun σ H Q=>ta σ H fun x H1=>tr σ H1 fun xs H2=>Q (x::xs) H2
section
variable {X:Cx} {e:Expr} {es:List Expr} {te:TE} {t:TA} {pos:Pos}
theorem pa_nil:PA X [] tNil:=fun _ _ _ _ H Q I h=>Calls.spliced_nil ⟨[],H,I,.nil,h⟩
theorem pa_cons (ha:PE X e te) (hr:PA X es t) (hs:starEach (e::es) X.env=(false,eval e X.env)::starEach es X.env:=by rfl):PA X (e::es) (tCons te t):=by
  intro pos pins s σ H Q I h
  rw[hs]
  show wpAny _ _ (spliced ((false,eval e X.env)::backTo pos (starEach es X.env))) _ _ s
  refine Calls.spliced_cons (thn (ha pins s σ H _ I h) fun u s1 ⟨x,H1,I1,r1,q1⟩=>?_)
  exact thn (hr pos pins s1 σ H1 _ I1 q1) fun us s2 ⟨xs,H2,I2,r2,q2⟩=>⟨x::xs,H2,I2,.cons r1 r2,q2⟩
def tTup (t:TA):TE:=fun σ H Q=>t σ H fun xs H1=>xs.length <= sizeLine/\∀ p,H1 p=none->Q (.ref p) (upd H1 p (.tup xs))
def tLst (t:TA):TE:=fun σ H Q=>t σ H fun xs H1=>xs.length <= sizeLine/\∀ p,H1 p=none->Q (.ref p) (upd H1 p (.lst xs))
theorem pe_tup {x1} (h:PA X es t):PE X (.Tuple es x1 pos) (tTup t):=by
  intro pins s σ H Q I hq
  refine wpAny_Tuple_spliced (thn (h pos pins s σ H _ I hq) fun us s1 ⟨xs,H1,I1,r,z,q⟩=>⟨by rw[<- r.length];exact z,?_⟩)
  have hf:H1 s1.heap.objs.size=none:=I1.hok.fresh (Nat.le_refl _)
  refine⟨.ref s1.heap.objs.size,upd H1 s1.heap.objs.size (.tup xs),I1.laid (t':=s1.toks) (fun b u e=>Heap.get?_push_of_some _ e) (Nat.le_refl _) ?_,rfl,q _ hf⟩
  exact⟨⟨z,TpN.new _ _ rfl⟩,us,r,⟨_,Heap.get?_push_size _ rfl,rfl,_,rfl⟩⟩
theorem pe_lst (h:PA X es t):PE X (.List es pos) (tLst t):=by
  intro pins s σ H Q I hq
  refine wpAny_List_spliced (thn (h pos pins s σ H _ I hq) fun us s1 ⟨xs,H1,I1,r,z,q⟩=>⟨by rw[<- r.length];exact z,?_⟩)
  have hf:H1 s1.heap.objs.size=none:=I1.hok.fresh (Nat.le_refl _)
  refine⟨.ref s1.heap.objs.size,upd H1 s1.heap.objs.size (.lst xs),I1.laid (t':=s1.toks) (fun b u e=>Heap.get?_push_of_some _ e) (Nat.le_refl _) ?_,rfl,q _ hf⟩
  exact⟨z,us,0,r,Heap.get?_push_size _ rfl⟩
end
abbrev Sp:=List V->Hp->VK->XK->Prop
abbrev CXT:=List Env->Hp->Shared->XK->Value->Shared->Prop
structure Env0 (P:Program) (w:World) (K:PySem.W.Frag) (mg:Str->Option Value) (base:Heap) (A:Around) (outer:List Env) (s:Shared) (H:Hp):Prop where
  frames:A.frames=some outer
  mod:Mod K mg base
  bs:∀ b o,base.get? b=some o->s.heap.get? b=some o/\H b=none
  bsz:base.objs.size <= s.heap.objs.size
  funs:s.heap.FunFrames base outer
  frf:∀ b ∈ frs outer,H b=none
  hok:HOk P w H s.heap
  bare:AllBare s.gens
def CE (outer:List Env) (P:Program) (w:World) (H:Hp) (s:Shared) (Q:VK) (u:Value) (s':Shared):Prop:=
  ∃ v H',s'.os=s.os/\AllBare s'.gens/\Un (frs outer) [] H H' s.heap s'.heap/\HOk P w H' s'.heap/\RelV v u/\Q v H'
def CR (CX:CXT) (outer:List Env) (P:Program) (w:World) (H:Hp) (s:Shared) (Q:VK) (E:XK) (r:Result) (s':Shared):Prop:=
  match r with
  | .ok (.ret u)=>CE outer P w H s Q u s'
  | .ok _=>False
  | .error e=>CX outer H s E e s'
structure FnOk (P:Program) (w:World) (K:PySem.W.Frag) (mg:Str->Option Value) (base:Heap) (CX:CXT) (k:Nat) (f:Addr) (fd:FuncData) (ps:List Str) (sp:Sp):Prop where
  len:∀ vs H Q E,sp vs H Q E->vs.length=ps.length
  run:∀ (A:Around) (outer:List Env) (s:Shared) (H:Hp) (args:Args) (us:List Value) (vs:List V) (Q:VK) (E:XK),Room k A->Env0 P w K mg base A outer s H->BindsTo s fd args (ps.zip us)->Vals vs us->sp vs H Q E ->
    codeAny (model P w) A (.call (.ref f) args) (CR CX outer P w H s Q E) s
theorem FnOk.mono {P:Program} {w:World} {K:PySem.W.Frag} {mg:Str->Option Value} {base:Heap} {CX:CXT} {j k:Nat} {f:Addr} {fd:FuncData} {ps:List Str} {sp:Sp} (F:FnOk P w K mg base CX j f fd ps sp) (h:j <= k) :
    FnOk P w K mg base CX k f fd ps sp:=⟨F.len,fun A outer s H args us vs Q E hr=>F.run A outer s H args us vs Q E (hr.mono h)⟩
section
variable {X:Cx} {pins:List (Addr × Obj)} {σ:St} {H:Hp} {s s':Shared}
theorem Inv.env0 (I:Inv X pins σ H s):Env0 X.prog X.w X.K X.mg X.base X.A X.stack s H:=
  ⟨I.ok.frames,I.ok.mod,I.bs,Nat.le_trans I.ok.bsz I.sz,I.stack,I.stkFree,I.hok,I.bare⟩
theorem Inv.after {Q:VK} {u:Value} (I:Inv X pins σ H s) (h:CE X.stack X.prog X.w H s Q u s'):EP X pins σ Q u s':=by
  obtain⟨v,H',os,bare,un,hok,r,q⟩:=h
  obtain⟨hh,g,d,t,os'⟩:=s'
  obtain rfl:os'=s.os:=os
  exact⟨v,H',I.call (h':=hh) (g':=g) (d':=d) (t':=t) (ch:=[]) un hok bare (fun b z=>absurd z (by simp)),r,q⟩
end
def tCall (sp:Sp) (dvs:List V) (E:XK) (t:TA):TE:=fun σ H Q=>t σ H fun vs H1=>sp (vs++dvs) H1 Q E
def Binds (K:PySem.W.Frag) (fd:FuncData) (ps:List Str) (ds:List Value):Prop:=
  ∀ (s:Shared) (us:List Value),K.In s.heap->(us++ds).length=ps.length->BindsTo s fd ⟨us,[]⟩ (ps.zip (us++ds))
theorem Binds.all {K:PySem.W.Frag} {fd:FuncData} {ps:List Str} (h:∀ us:List Value,us.length=ps.length->bindArgs fd ⟨us,[]⟩=pure (ps.zip us)):Binds K fd ps []:=fun s us _ hl=>by
  rw[List.append_nil] at hl ⊢
  exact .of_eq (h us hl)
def Passes (CX:CXT) (X:Cx) (E:XK):Prop:=∀ (pins:List (Addr × Obj)) (σ:St) (H:Hp) (s:Shared) (e:Value) (s':Shared),Inv X pins σ H s->CX X.stack H s E e s'->X.xe e s'
section
variable {X:Cx} {CX:CXT} {k:Nat} {f C:Addr} {fd:FuncData} {ps:List Str} {sp:Sp} {dvs:List V} {ds:List Value} {E:XK} {x m:Str} {p pos apos:Pos} {e o:Expr} {es:List Expr} {ta:TE} {t:TA}
theorem run_fn {pins:List (Addr × Obj)} {σ:St} {H:Hp} {s:Shared} {Q:VK} {us:List Value} {vs:List V} (F:FnOk X.prog X.w X.K X.mg X.base CX k f fd ps sp) (hr:Room k X.A) (hb:Binds X.K fd ps ds) (hd:Vals dvs ds) (hx:Passes CX X E)
    (I:Inv X pins σ H s) (r:Vals vs us) (h:sp (vs++dvs) H Q E):wpAny (model X.prog X.w) X.A (call (.ref f) us) (EP X pins σ Q) X.xe s:=by
  have r2:Vals (vs++dvs) (us++ds):=r.append hd
  have hl:(us++ds).length=ps.length:=by rw[<- r2.length];exact F.len _ _ _ _ h
  refine wpAny_call (codeAny_mono (F.run X.A X.stack s H ⟨us,[]⟩ (us++ds) (vs++dvs) Q E hr I.env0 (hb s us I.kIn hl) r2 h) fun r s' hq=>?_)
  cases r with
  | error e=>exact hx pins σ H s e s' I hq
  | ok fl=>
    cases fl with
    | ret u=>exact I.after hq
    | next=>exact False.elim hq
    | brk=>exact False.elim hq
    | cont=>exact False.elim hq
theorem pe_call (F:FnOk X.prog X.w X.K X.mg X.base CX k f fd ps sp) (hr:Room k X.A) (hg:Gl X x) (hm:X.mg x=some (.ref f)) (hk:PySem.W.keepIn X.K (.ref f)=true) (hb:Binds X.K fd ps ds) (hd:Vals dvs ds) (hx:Passes CX X E)
    (ha:PA X (e::es) t) (hdb:(x == ("__debug__" : Str))=false:=by decide) (he:starEach (e::es) X.env=(false,eval e X.env)::starEach es X.env:=by rfl) (hpl:(backTo pos (starEach es X.env)).any (·.1)=false:=by rfl) :
    PE X (.Call (.Name x p) (e::es) [] pos) (tCall sp dvs E t):=by
  intro pins s σ H Q I h
  refine wpAny_Call_Name_kw (ld_glob I hg hm ?_ hdb)
  refine PySem.W.callWith_K (h₀:=X.base) I.ok.mod.kin hk (thn (ha pos pins s σ H _ I h) fun us s1 ⟨vs,H1,I1,r,q⟩=>⟨I1.kIn,?_⟩) he hpl
  exact run_fn F hr hb hd hx I1 r q
end
section
variable {X:Cx} {CX:CXT} {k:Nat} {f C:Addr} {fd:FuncData} {ps ks:List Str} {sp:Sp} {E:XK} {x m:Str} {p pos apos kpos:Pos} {e o:Expr} {es:List Expr} {kws:List Keyword} {te ta:TE} {t tk:TA} {nm:Option Str}
variable {g:List Value->List Value->List Value} {gV:List V->List V->List V}
end
structure FnScope (N P:List Str) (sc:Scope):Prop where
  kind:sc.kind=.function
  co:sc.isCoroutine=false
  gen:sc.isGenerator=false
  nd:N.Nodup
  pre:N.take P.length=P
  par:∀ x ∈ P,sc.names.lookup x=some .local\/sc.names.lookup x=some .cell
  nofree:∀ y ∈ sc.names,y.2 ≠ .free
theorem bindL_out {kindOf:Str->Option NameKind} {x:Str}:∀ {binds:List (Str × Value)} {m:Str->Option Value},(∀ v,(x,v) ∉ binds)->bindL kindOf binds m x=m x
  | [],_,_=>rfl
  | (n,v)::r,m,h=>by
    unfold bindL
    rw[bindL_out fun w hw=>h w (List.mem_cons_of_mem _ hw)]
    split
    · have:x ≠ n:=by rintro rfl;exact h v List.mem_cons_self
      simp[this]
    · rfl
theorem bindC_out {kindOf:Str->Option NameKind} {x:Str}:∀ {binds:List (Str × Value)} {m:Str->Option Value},(∀ v,(x,v) ∉ binds)->bindC kindOf binds m x=m x
  | [],_,_=>rfl
  | (n,v)::r,m,h=>by
    unfold bindC
    rw[bindC_out fun w hw=>h w (List.mem_cons_of_mem _ hw)]
    split
    · rfl
    · have:x ≠ n:=by rintro rfl;exact h v List.mem_cons_self
      simp[this]
theorem bindL_get {kindOf:Str->Option NameKind} {x:Str} {v:Value}:∀ {P:List Str} {vs:List Value} {i:Nat} {m:Str->Option Value},P.Nodup->P[i]?=some x->vs[i]?=some v->kindOf x=some .local ->
    bindL kindOf (P.zip vs) m x=some v
  | [],_,_,_,_,h,_,_=>by simp at h
  | _::_,[],_,_,_,_,h,_=>by simp at h
  | p::P,w::vs,0,m,nd,h1,h2,hk=>by
    simp at h1 h2;subst h1;subst h2
    show bindL kindOf ((p,w)::P.zip vs) m p=_
    unfold bindL
    rw[bindL_out fun v hv=>(List.nodup_cons.mp nd).1 (List.of_mem_zip hv).1,if_pos hk]
    simp
  | p::P,w::vs,i+1,m,nd,h1,h2,hk=>by
    show bindL kindOf ((p,w)::P.zip vs) m x=_
    unfold bindL
    exact bindL_get (i:=i) (List.nodup_cons.mp nd).2 (by simpa using h1) (by simpa using h2) hk
theorem bindC_get {kindOf:Str->Option NameKind} {x:Str} {v:Value}:∀ {P:List Str} {vs:List Value} {i:Nat} {m:Str->Option Value},P.Nodup->P[i]?=some x->vs[i]?=some v->kindOf x ≠ some .local ->
    bindC kindOf (P.zip vs) m x=some v
  | [],_,_,_,_,h,_,_=>by simp at h
  | _::_,[],_,_,_,_,h,_=>by simp at h
  | p::P,w::vs,0,m,nd,h1,h2,hk=>by
    simp at h1 h2;subst h1;subst h2
    show bindC kindOf ((p,w)::P.zip vs) m p=_
    unfold bindC
    rw[bindC_out fun v hv=>(List.nodup_cons.mp nd).1 (List.of_mem_zip hv).1,if_neg hk]
    simp
  | p::P,w::vs,i+1,m,nd,h1,h2,hk=>by
    show bindC kindOf ((p,w)::P.zip vs) m x=_
    unfold bindC
    exact bindC_get (i:=i) (List.nodup_cons.mp nd).2 (by simpa using h1) (by simpa using h2) hk
noncomputable def start (N:List Str) (vs:List V):St:=vs.map some++List.replicate (N.length - vs.length) none
noncomputable def cxOf (CX:CXT) (P:Program) (w:World) (K:PySem.W.Frag) (mg:Str->Option Value) (base:Heap) (N:List Str) (qual:Str) (scope:Scope) (f:Addr) (cd:Value) (A:Around) (outer:List Env) (s:Shared) (H:Hp) (E:XK):Cx where
  prog:=P
  w:=w
  K:=K
  mg:=mg
  base:=base
  A:=A.deeper (envOfC qual scope s.heap.objs.size f cd)
  N:=N
  s₀:=s
  H₀:=H
  env:=envOfC qual scope s.heap.objs.size f cd
  outer:=outer
  stack:=envOfC qual scope s.heap.objs.size f cd::outer
  ex:=[]
  calm:=true
  fn:=fun _=>true
  pn:=[]
  xe:=fun e s'=>wpAny (model P w) (A.deeper (envOfC qual scope s.heap.objs.size f cd)) (leaving (envOfC qual scope s.heap.objs.size f cd) e) (fun _ s''=>CX outer H s E e s'') (fun e' s''=>CX outer H s E e' s'') s'
theorem cell_has {sc:Scope} {n:Nat} {x:Str} (h:sc.names.lookup x=some .cell):∃ c,(cellsFrom n sc.names []).lookup x=some c:=by
  have q:=PySem.W.cellsFrom_some sc.names n [] (.inl h)
  exact Option.isSome_iff_exists.mp q
theorem inv_start {CX:CXT} {P:Program} {w:World} {K:PySem.W.Frag} {mg:Str->Option Value} {base:Heap} {N ps:List Str} {qual:Str} {scope:Scope} {f:Addr} {cd:Value} {A:Around} {outer:List Env} {s s1:Shared} {H:Hp} {E:XK} {us:List Value} {vs:List V}
    (S:FnScope N ps scope) (hd:A.handled=none) (e0:Env0 P w K mg base A outer s H) (hl:vs.length=ps.length) (r:Vals vs us)
    (x:InCallC s s.heap.objs.size (bindL (envOfC qual scope s.heap.objs.size f cd).kindOf (ps.zip us) fun _=>none) (cellsFrom (s.heap.objs.size+1) scope.names []) (bindC (envOfC qual scope s.heap.objs.size f cd).kindOf (ps.zip us) fun _=>none) s1) :
    Inv (cxOf CX P w K mg base N qual scope f cd A outer s H E) [] (start N vs) H s1:=by
  have hpl:ps.length <= N.length:=by have:=congrArg List.length S.pre;rw[List.length_take] at this;omega
  obtain⟨h1,tk,rfl,hk⟩:=x.done
  have noA:∀ b:Addr,b ∉ (cxOf CX P w K mg base N qual scope f cd A outer s H E).ex:=fun b z=>absurd (show b ∈ ([]:List Addr) from z) (by simp)
  refine⟨⟨e0.mod,S.kind,rfl,rfl,Nat.le_refl _,fun y z c h1 h2=>?_,fun y hy=>?_,fun y c _ h=>?_,fun _=>hd,Around.frames_deeper e0.frames,.inr ⟨rfl,rfl⟩,fun b z=>absurd z (noA b),e0.bs,e0.bsz,fun b _ _=>noA b,fun b z=>absurd z (noA b),e0.funs,e0.frf⟩,
    rfl,e0.bare,Un.kept hk,⟨_,x.toInCall.ns,fun i y v h1 h2 h3=>?_⟩,fun y c h=>⟨_,x.cell y c h⟩,e0.hok.fresh (Nat.le_refl _),fun y c h=>?_,fun p hp=>absurd (show p ∈ ([]:List (Addr × Obj)) from hp) (by simp),e0.hok.kept hk,?_⟩
  · exact name_of_addr x.apart (PySem.mem_of_lookup h1) (PySem.mem_of_lookup h2)
  · have hy:scope.names.lookup y=some .cell\/scope.names.lookup y=some .free:=hy
    rcases hy with hy | hy
    · exact cell_has hy
    · exact absurd rfl (S.nofree _ (PySem.mem_of_lookup hy))
  · exact Nat.le_of_lt (x.above y c (PySem.mem_of_lookup h))
  · have hi:i < vs.length:=by
      unfold start at h2
      by_cases hi:i < vs.length
      · exact hi
      · rw[List.getElem?_append_right (by simpa using hi)] at h2
        rw[List.getElem?_replicate] at h2
        split at h2 <;> cases h2
    have ha:vs[i]?=some v:=by
      unfold start at h2
      rw[List.getElem?_append_left (by simpa using hi),List.getElem?_map] at h2
      cases e:vs[i]? with
      | none=>rw[e] at h2;cases h2
      | some a=>rw[e] at h2;cases h2;rfl
    obtain⟨u,hu,rv⟩:=r.get ha
    have hp:ps[i]?=some y:=by
      rw[<- S.pre,List.getElem?_take_of_lt (by omega)];exact h1
    have ndP:ps.Nodup:=by rw[<- S.pre];exact S.nd.sublist (List.take_sublist _ _)
    refine⟨u,rv,?_⟩
    rcases S.par y (List.mem_of_getElem? hp) with k | k
    · exact .inl ⟨k,bindL_get ndP hp hu k⟩
    · obtain⟨c,e⟩:=cell_has (n:=s.heap.objs.size+1) k
      refine .inr ⟨.inl k,c,e,?_⟩
      have q:=x.cell y c e
      rw[bindC_get ndP hp hu (by show scope.names.lookup y ≠ _;rw[k];decide)] at q
      exact q
  · exact e0.hok.fresh (Nat.le_of_lt (x.above y c (PySem.mem_of_lookup h)))
  · unfold start
    show _=N.length
    rw[List.length_append,List.length_map,List.length_replicate]
    omega
theorem fn_of {CX:CXT} {P:Program} {w:World} {K:PySem.W.Frag} {mg:Str->Option Value} {base:Heap} {k:Nat} {f:Addr} {name qual:Str} {params:Arguments} {body:List Stmt} {scope:Scope} {dV kV doc pm cdv ct oc:Value} {an od:Option Addr}
    {osl:Array (Option Value)} {N ps:List Str} {sp:Sp} (lk:K.lookup f=some ⟨oc,od,.func (PySem.W.fnOf name qual params body scope dV kV doc pm an cdv ct),osl⟩) (hcd:PySem.W.codeIn K cdv qual=true) (S:FnScope N ps scope)
    (len:∀ vs H Q E,sp vs H Q E->vs.length=ps.length)
    (hbody:∀ (A:Around) (outer:List Env) (s:Shared) (H:Hp) (vs:List V) (Q:VK) (E:XK),Room k (A.deeper (envOfC qual scope s.heap.objs.size f cdv))->sp vs H Q E ->
      ∃ t,PSs (cxOf CX P w K mg base N qual scope f cdv A outer s H E) body t/\t { nx:=fun _ H'=>Q .non H',rt:=Q } (start N vs) H) :
    FnOk P w K mg base CX (k+1) f (PySem.W.fnOf name qual params body scope dV kV doc pm an cdv ct) ps sp:=by
  refine⟨len,fun A outer s H args us vs Q E hr e0 hb r hsp=>?_⟩
  have hl:=len _ _ _ _ hsp
  have KX:K.In s.heap:=e0.mod.kin.keeps fun b o e=>(e0.bs b o e).1
  have lim:s.heap.NoLimit:=e0.mod.nolimit.keeps fun b o e=>(e0.bs b o e).1
  have hkind:∀ y ∈ ps.zip us,scope.names.lookup y.1=some .local\/(scope.names.lookup y.1=some .cell/\((cellsFrom (s.heap.objs.size+1) scope.names []).lookup y.1).isSome=true):=fun⟨n,v⟩ hy=>by
    rcases S.par n (List.of_mem_zip hy).1 with q | q
    · exact .inl q
    · exact .inr ⟨q,PySem.W.cellsFrom_some _ _ _ (.inl q)⟩
  refine codeAny_call_function hr.depth (KX _ _ lk) rfl S.co S.gen rfl (PySem.W.codeRec_of KX hcd) (hb _ _ _ _ ?_)
  refine wpAny_newFunctionEnv_cells S.kind hkind fun env he s1 x=>?_
  subst he
  refine⟨lim.keeps x.toInCall.keep,codeAny_func ?_⟩
  obtain⟨t,ht,hq⟩:=hbody A outer s H vs Q E (hr.deeper _) hsp
  have I:Inv (cxOf CX P w K mg base N qual scope f cdv A outer s H E) [] (start N vs) H s1:=inv_start S hr.hd e0 hl r x
  refine wpAny_mono (ht [] s1 (start N vs) H _ I hq) (fun fl s' hs=>?_) fun e s' hs=>hs
  have fin:∀ {σ':St} {H':Hp} {v:V} {u:Value},Inv (cxOf CX P w K mg base N qual scope f cdv A outer s H E) [] σ' H' s'->RelV v u->Q v H'->CE outer P w H s Q u s':=
    fun {σ' H' v u} J rv q=>⟨v,H',J.os,J.bare,J.base,J.hok,rv,q⟩
  cases fl with
  | ret u=>
    obtain⟨v,σ',H',J,rv,q⟩:=hs
    exact fin J rv q
  | next=>
    obtain⟨σ',H',J,q⟩:=hs
    exact fin (v:=V.non) (u:=Value.none) J rfl q
  | brk=>
    obtain⟨_,_,_,q⟩:=hs
    exact False.elim q
  | cont=>
    obtain⟨_,_,_,q⟩:=hs
    exact False.elim q
end L2
namespace L2
open PySem PySem.Spec PyProof.Rows
section
variable {X:Cx} {x:Str} {p pos:Pos} {e:Expr} {es:List Expr} {t:TA} {id T:String} {r:List V->Hp->VK->Prop}
def tCB (r:List V->Hp->VK->Prop) (t:TA):TE:=fun σ H Q=>t σ H fun vs H1=>r vs H1 Q
theorem pe_callB (hc:CallR X (.builtin id) r) (hg:Gl X x) (hm:X.mg x=none) (hv:bootBuiltins x=some (.builtin id)) (ha:PA X (e::es) t) (hn:x ≠ "__name__":=by decide) (hdb:(x == ("__debug__" : Str))=false:=by decide)
    (he:starEach (e::es) X.env=(false,eval e X.env)::starEach es X.env:=by rfl) (hpl:(backTo pos (starEach es X.env)).any (·.1)=false:=by rfl):PE X (.Call (.Name x p) (e::es) [] pos) (tCB r t):=by
  intro pins s σ H Q I h
  refine wpAny_Call_Name_kw (ld_blt I hg hm hv ?_ hn hdb)
  exact PyProof.Rows.callWith_builtin1 (thn (ha pos pins s σ H _ I h) fun us s1 ⟨vs,H1,I1,r1,q1⟩=>hc pins s1 σ H1 vs us Q I1 r1 q1) he hpl
theorem pe_callTy (hc:CallR X (.type T) r) (hg:Gl X x) (hm:X.mg x=none) (hv:bootBuiltins x=some (.type T)) (ha:PA X (e::es) t) (hn:x ≠ "__name__":=by decide) (hdb:(x == ("__debug__" : Str))=false:=by decide)
    (he:starEach (e::es) X.env=(false,eval e X.env)::starEach es X.env:=by rfl) (hpl:(backTo pos (starEach es X.env)).any (·.1)=false:=by rfl):PE X (.Call (.Name x p) (e::es) [] pos) (tCB r t):=by
  intro pins s σ H Q I h
  refine wpAny_Call_Name_kw (ld_blt I hg hm hv ?_ hn hdb)
  exact PyProof.Rows.callWith_type1 (thn (ha pos pins s σ H _ I h) fun us s1 ⟨vs,H1,I1,r1,q1⟩=>hc pins s1 σ H1 vs us Q I1 r1 q1) he hpl
end
end L2
namespace HT
open PySem PyProof.Rows
section
open PySem.SeqAt
open PySem.AutoSeq1 (wpAny_loadPart')
open PySem.MeetsSeq PySem.MeetsSeq2 PySem.MeetsSeq3
end
section
variable {prog:Program} {w:World} {A:Around} {E:Value->Shared->Prop} {s:Shared}
theorem cat_tup {t b:Addr} {vs ws:List Value} {Q:Value->Shared->Prop} (ht:IsTup s.heap t vs.toArray) (hb:IsTup s.heap b ws.toArray) (hv:vs ≠ [])
    (h1:ws=[]->Q (.ref t) s) (h2:ws ≠ []->Q (.ref s.heap.objs.size) { s with heap:=s.heap.push { cls:=.type "tuple",data:=.seq (vs++ws).toArray } })
    (hsz:vs.length+ws.length <= sizeLine):wpAny (model prog w) A (binaryOp .Add (.ref t) (.ref b)) Q E s:=by
  obtain⟨⟨cls,dd,data,sl⟩,ho,hc,n,hd⟩:=id ht
  obtain⟨⟨cls2,dd2,data2,sl2⟩,ho2,hc2,n2,hd2⟩:=id hb
  simp only at hc hd hc2 hd2
  subst hc hd hc2 hd2
  have e:vs.toArray++ws.toArray=(vs++ws).toArray:=by simp
  by_cases hw:ws=[]
  · exact concat_meets ⟨_,ho,rfl⟩ ⟨_,ho2,rfl⟩ noFill_tuple_add seq_tuple_add PySem.F.slot_tuple_add PySem.F.entry_tuple_add (PySem.F.args_tuple_add_2 _ _)
      (tuple_addW1 t b vs.toArray ws.toArray n n2 dd dd2 sl sl2 (by simpa using hv) (by simp[hw])) ⟨ho,ho2,h1 hw⟩
  · refine concat_meets ⟨_,ho,rfl⟩ ⟨_,ho2,rfl⟩ noFill_tuple_add seq_tuple_add PySem.F.slot_tuple_add PySem.F.entry_tuple_add (PySem.F.args_tuple_add_2 _ _)
      (tuple_addW2 t b vs.toArray ws.toArray n n2 dd dd2 sl sl2 (by simpa using hv) (by simpa using hw) (by rw[List.size_toArray,List.size_toArray];exact hsz)) ⟨ho,ho2,?_⟩
    rw[e]
    exact h2 hw
noncomputable def sIx (n d:Nat):Option Int->Nat
  | none=>d
  | some v=>if v < 0 then (v+(n:Int)).toNat else min v.toNat n
theorem sIx_none (n d:Nat):sIx n d none=d:=rfl
theorem sIx_nat (n d k:Nat):sIx n d (some (k:Int))=min k n:=by
  show (if (k:Int) < 0 then ((k:Int)+(n:Int)).toNat else min (k:Int).toNat n)=min k n
  rw[if_neg (by omega),Int.toNat_natCast]
end
end HT
namespace L2
open PySem PySem.Spec PyProof.Rows
abbrev TO:=St->Hp->(Option Int->Hp->Prop)->Prop
def PO (X:Cx) (e:Option Expr) (t:TO):Prop:=
  ∀ (pins:List (Addr × Obj)) (s:Shared) (σ:St) (H:Hp) (Q:Option Int->Hp->Prop),Inv X pins σ H s->t σ H Q ->
    wpAny (model X.prog X.w) X.A (evalPart e X.env) (fun u s'=>∃ o H',Inv X pins σ H' s'/\IsPart u o/\Q o H') X.xe s
noncomputable def tNoPart:TO:=fun _ H Q=>Q none H
noncomputable def tPart (t:TE):TO:=fun σ H Q=>t σ H fun x H1=>∃ i,x=.int i/\Q (some i) H1
theorem intsAre_of {ns:List Int}:∀ {us:List Value},Vals (ns.map V.int) us->IntsAre us ns:=by
  induction ns with
  | nil=>intro us r;rw[List.map_nil] at r;cases r;exact .nil
  | cons n ns ih=>
    intro us r
    rw[List.map_cons] at r
    cases r with
    | cons r1 r2=>
      obtain⟨t,e⟩:=r1
      subst e
      exact .cons n t (ih r2)
section
variable {X:Cx} {e:Expr} {te:TE} {lo hi:Option Expr} {tl th:TO} {pos p2:Pos}
theorem po_none:PO X none tNoPart:=by
  intro pins s σ H Q I h
  rw[evalPart_none]
  exact wpAny_pure ⟨none,H,I,.none,h⟩
theorem po_some (h:PE X e te):PO X (some e) (tPart te):=by
  intro pins s σ H Q I hw
  rw[evalPart_some]
  refine thn (h pins s σ H _ I hw) fun u s1 ⟨x,H1,I1,r1,q1⟩=>?_
  obtain⟨i,rfl,q⟩:=q1
  obtain⟨t,rfl⟩:=r1
  exact⟨some i,H1,I1,.int i t,q⟩
def SlR (X:Cx) (r:V->Option Int->Option Int->Hp->VK->Prop):Prop:=
  ∀ (pins:List (Addr × Obj)) (s:Shared) (σ:St) (H:Hp) (x:V) (v vl vu:Value) (lo hi:Option Int) (sl:Addr) (Q:VK),Inv X pins σ H s->RelV x v->s.heap.IsSliceOf sl vl vu .none->IsPart vl lo->IsPart vu hi->r x lo hi H Q ->
    ∃ T id,typeLookup (.type T) "__getitem__" = pure (some (.builtin id))/\s.TypeIs v T/\wpAny (model X.prog X.w) X.A (getItem v (.ref sl)) (EP X pins σ Q) X.xe s
def tSl (r:V->Option Int->Option Int->Hp->VK->Prop) (te:TE) (tl th:TO):TE:=fun σ H Q=>te σ H fun x H1=>tl σ H1 fun l H2=>th σ H2 fun u H3=>r x l u H3 Q
theorem pe_slice {r:V->Option Int->Option Int->Hp->VK->Prop} (hr:SlR X r) (he:PE X e te) (hl:PO X lo tl) (hu:PO X hi th):PE X (.Subscript e (.Slice lo hi none p2) pos) (tSl r te tl th):=by
  intro pins s σ H Q I h
  refine Subscript_ (thn (he pins s σ H _ I h) fun v s1 ⟨x,H1,I1,r1,q1⟩=>?_)
  refine wpAny_Slice (thn (hl pins s1 σ H1 _ I1 q1) fun vl s2 ⟨l,H2,I2,pl,q2⟩=>thn (hu pins s2 σ H2 _ I2 q2) fun vu s3 ⟨u,H3,I3,pu,q3⟩=>?_)
  rw[evalPart_none]
  refine wpAny_pure ?_
  have I4:Inv X pins σ H3 { s3 with heap:=s3.heap.push { cls:=.type "slice",data:=.fields #[vl,vu,.none] } }:=I3.kept (t':=s3.toks) fun b ob q=>Heap.get?_push_of_some _ q
  obtain⟨T,id,hT,ht,hg⟩:=hr pins { s3 with heap:=s3.heap.push { cls:=.type "slice",data:=.fields #[vl,vu,.none] } } σ H3 x v vl vu l u s3.heap.objs.size Q I4 r1 (Heap.IsSliceOf.new ..) pl pu q3
  show wpAny (model X.prog X.w) X.A (subscriptTail e (.Slice lo hi none p2) v (.ref s3.heap.objs.size)) (EP X pins σ Q) X.xe { s3 with heap:=s3.heap.push { cls:=.type "slice",data:=.fields #[vl,vu,.none] } }
  exact tail_any (ops:=[.ref s3.heap.objs.size,v]) ht hT hg (by with_unfolding_all rfl)
noncomputable def cutV (xs:List V) (lo hi:Option Int):List V:=(xs.drop (HT.sIx xs.length 0 lo)).take (HT.sIx xs.length xs.length hi - HT.sIx xs.length 0 lo)
theorem cutV_length (xs:List V) (lo hi:Option Int):(cutV xs lo hi).length <= xs.length:=by
  unfold cutV
  rw[List.length_take,List.length_drop]
  omega
noncomputable def rCatT (K:PySem.W.Frag):R2:=fun x y H Q=>∃ a b xs ys,x=.ref a/\y=.ref b/\SqT K H a xs/\SqT K H b ys/\xs ≠ []/\xs.length+ys.length <= sizeLine /\
  (ys=[]->Q (.ref a) H)/\(ys ≠ []->∀ p,H p=none->Q (.ref p) (upd H p (.tup (xs++ys))))
theorem Vals.nil_iff {xs:List V} {us:List Value} (r:Vals xs us):us=[] ↔ xs=[]:=by
  cases r with
  | nil=>simp
  | cons _ _=>simp
theorem op_catT:OpR X (binaryOp .Add) (rCatT X.K):=by
  intro pins s σ H x y v u Q I rx ry h
  obtain⟨a,b,xs,ys,rfl,rfl,ha,hb,hx,hz,q1,q2⟩:=h
  cases rx
  cases ry
  obtain⟨its,r1,p1,_⟩:=I.tuple ha
  obtain⟨its2,r2,p2,_⟩:=I.tuple hb
  refine HT.cat_tup p1 p2 (fun z=>hx (r1.nil_iff.mp z)) (fun z=>⟨.ref a,H,I,rfl,q1 (r2.nil_iff.mp z)⟩) (fun z=>?_) (by rw[<- r1.length,<- r2.length];exact hz)
  refine⟨.ref s.heap.objs.size,_,I.laid (t':=s.toks) (o:=.tup (xs++ys)) (fun b ob q=>Heap.get?_push_of_some _ q) (Nat.le_refl _) ?_,rfl,q2 (fun w=>z (r2.nil_iff.mpr w)) _ (I.hok.fresh (Nat.le_refl _))⟩
  exact⟨⟨by rw[List.length_append];exact hz,TpN.new _ _ rfl⟩,_,r1.append r2,IsTup.new _ _⟩
end
end L2
namespace L2
open PySem PySem.Spec PyProof.Rows
noncomputable def ixN (n:Nat) (i:Int):Option Nat:=if 0 <= i then (if i < n then some i.toNat else none) else if -(n:Int) <= i then some (i+n).toNat else none
noncomputable def atI {α:Type} (xs:List α) (i:Int):Option α:=(ixN xs.length i).bind fun j=>xs[j]?
theorem ixN_seq {n:Nat} {i:Int} {j:Nat} (h:ixN n i=some j):seqIndex? i n=some j/\j < n/\-(n:Int) <= i/\i < n:=by
  unfold ixN at h
  by_cases h0:0 <= i
  · rw[if_pos h0] at h
    by_cases h1:i < n
    · rw[if_pos h1] at h
      have e:i.toNat=j:=Option.some.inj h
      exact⟨by rw[seqIndex_of h0 h1,e],by omega,by omega,h1⟩
    · rw[if_neg h1] at h;cases h
  · rw[if_neg h0] at h
    by_cases h1 : -(n:Int) <= i
    · rw[if_pos h1] at h
      have e:(i+n).toNat=j:=Option.some.inj h
      exact⟨by rw[seqIndex_neg (by omega) h1,e],by omega,h1,by omega⟩
    · rw[if_neg h1] at h;cases h
theorem atI_get {α:Type} {xs:List α} {i:Int} {v:α} (h:atI xs i=some v):∃ j,seqIndex? i xs.length=some j/\xs[j]?=some v/\j < xs.length/\-(xs.length:Int) <= i/\i < xs.length:=by
  unfold atI at h
  cases e:ixN xs.length i with
  | none=>rw[e] at h;cases h
  | some j=>
    rw[e] at h
    obtain⟨h1,h2,h3,h4⟩:=ixN_seq e
    exact⟨j,h1,h,h2,h3,h4⟩
theorem atI_nat {α:Type} {xs:List α} {j:Nat} {v:α} (h:xs[j]?=some v):atI xs (j:Int)=some v:=by
  have hj:j < xs.length:=(List.getElem?_eq_some_iff.mp h).1
  have e:ixN xs.length (j:Int)=some j:=by
    unfold ixN
    rw[if_pos (by omega),if_pos (by omega)];simp
  unfold atI;rw[e];exact h
def PlainIx (b:Expr):Prop:=∀ o i,subscripted b false o i=operate [o,i] (getItem o i)
def IxR (X:Cx) (r:R2):Prop:=
  ∀ (value slice:Expr) (pins:List (Addr × Obj)) (s:Shared) (σ:St) (H:Hp) (x y:V) (v u:Value) (Q:VK),Inv X pins σ H s->RelV x v->RelV y u->r x y H Q ->
    subscripted slice false v u=operate [v,u] (getItem v u)->wpAny (model X.prog X.w) X.A (subscriptTail value slice v u) (EP X pins σ Q) X.xe s
def MtR (X:Cx) (id:String) (r:V->List V->Hp->VK->Prop):Prop:=
  ∀ (pins:List (Addr × Obj)) (s:Shared) (σ:St) (H:Hp) (x:V) (xs:List V) (v:Value) (us:List Value) (Q:VK),Inv X pins σ H s->RelV x v->Vals xs us->r x xs H Q ->
    wpAny (model X.prog X.w) X.A (call (.builtin id) (v::us)) (EP X pins σ Q) X.xe s
section
variable {X:Cx} {a b:Expr} {ta tb:TE} {pos:Pos}
theorem pe_ix {r:R2} (hr:IxR X r) (ha:PE X a ta) (hb:PE X b tb) (hs:PlainIx b):PE X (.Subscript a b pos) (tOp r ta tb):=by
  intro pins s σ H Q I h
  exact Subscript_ (binT ha hb I h fun v u s2 x y H2 I2 rx ry q=>hr a b pins s2 σ H2 x y v u Q I2 rx ry q (hs _ _))
noncomputable def rIxL (K:PySem.W.Frag):R2:=fun x y H Q=>∃ p xs i v,x=.ref p/\y=.int i/\SqL K H p xs/\atI xs i=some v/\Q v H
noncomputable def rIxT (K:PySem.W.Frag):R2:=fun x y H Q=>∃ p xs i v,x=.ref p/\y=.int i/\SqT K H p xs/\atI xs i=some v/\Q v H
noncomputable def rIxS:R2:=fun x y H Q=>∃ z i c,x=.str z/\y=.int i/\z.length <= sizeLine/\atI z.cps.toList i=some c/\Q (.str ⟨#[c]⟩) H
theorem ix_list:IxR X (rIxL X.K):=by
  intro value slice pins s σ H x y v u Q I rx ry h hs
  obtain⟨p,xs,i,z,rfl,rfl,hq,he,q⟩:=h
  cases rx
  obtain⟨t,rfl⟩:=ry
  obtain⟨its,r,pl,hz⟩:=I.list hq
  obtain⟨j,h1,h2,h3,h4,h5⟩:=atI_get he
  obtain⟨w,ew,rw'⟩:=r.get h2
  have hl:=r.length
  have hn:=line63
  have fin:EP X pins σ Q w s:=⟨z,H,I,rw',q⟩
  by_cases h0:0 <= i
  · have hj:i.toNat=j:=by
      rw[seqIndex_of h0 h5] at h1
      exact Option.some.inj h1
    exact item_listR pl.isList h0 (by omega) (by rw[hj];simpa using ew) fin hs
  · have hj:(i+(its.toArray.size:Int)).toNat=j:=by
      rw[seqIndex_neg (by omega) h4] at h1
      rw[List.size_toArray,<- hl]
      exact Option.some.inj h1
    exact subscriptTail_builtinR (x:=w) pl.isList.typeIs slot_list_getitem.lookup
      (wpAny_getItem_list_neg (Q:=fun r s'=>r=w/\EP X pins σ Q r s') pl.isList (by omega) (by rw[List.size_toArray] <;> omega) (by omega) (by rw[hj];simpa using ew) ⟨rfl,fin⟩) hs
theorem ix_tup:IxR X (rIxT X.K):=by
  intro value slice pins s σ H x y v u Q I rx ry h hs
  obtain⟨p,xs,i,z,rfl,rfl,hq,he,q⟩:=h
  cases rx
  obtain⟨t,rfl⟩:=ry
  obtain⟨its,r,pl,hz⟩:=I.tuple hq
  obtain⟨j,h1,h2,h3,h4,h5⟩:=atI_get he
  obtain⟨w,ew,rw'⟩:=r.get h2
  have hl:=r.length
  have hn:=line63
  have fin:EP X pins σ Q w s:=⟨z,H,I,rw',q⟩
  exact subscriptTail_builtinR (x:=w) pl.typeIs slot_tuple_getitem.lookup
    (getItem_tuple (j:=j) (Q:=fun r s'=>r=w/\EP X pins σ Q r s') pl (by omega) (by omega) (by rw[List.size_toArray,<- hl];exact h1) (by simpa using ew) ⟨rfl,fin⟩) hs
theorem ix_str:IxR X rIxS:=by
  intro value slice pins s σ H x y v u Q I rx ry h hs
  obtain⟨z,i,c,rfl,rfl,hz,he,q⟩:=h
  obtain⟨t,rfl⟩:=rx
  obtain⟨t',rfl⟩:=ry
  obtain⟨j,h1,h2,h3,h4,h5⟩:=atI_get he
  have hl:z.cps.toList.length=z.length:=by simp[Str.length]
  rw[hl] at h1 h4 h5
  have hn:=line63
  exact tail_any (typeIs_str s z t) slot_str_getitem.lookup (getItem_str (c:=c) (by
    have e1:decide (i < -(2 ^ 63:Int))=false:=decide_eq_false (by omega)
    have e2:decide (i >= 2 ^ 63)=false:=decide_eq_false (by omega)
    rw[e1,e2,Bool.or_false]) (by rw[h1];simpa using h2) ⟨.str ⟨#[c]⟩,H,I.tok _,⟨_,rfl⟩,q⟩) hs
theorem mapSeq_set (its:List Value) (n j:Nat) (u:Value):Obj.mapSeq (·.setIfInBounds j u) { cls:=.type "list",data:=.seq its.toArray n }={ cls:=.type "list",data:=.seq (its.set j u).toArray n }:=by
  simp[Obj.mapSeq]
theorem Inv.lst {pins:List (Addr × Obj)} {σ:St} {H:Hp} {s:Shared} {p:Addr} {xs:List V} (I:Inv X pins σ H s) (h:H p=some (.lst xs)) :
    ∃ (its:List Value) (n:Nat),Vals xs its/\s.heap.get? p=some { cls:=.type "list",data:=.seq its.toArray n }/\xs.length <= sizeLine:=by
  obtain⟨z,its,n,r,e⟩:=I.hok p _ h
  exact⟨its,n,r,e,z⟩
theorem Inv.lstUpd {pins:List (Addr × Obj)} {σ:St} {H:Hp} {s:Shared} {p:Addr} {xs ys:List V} {its its':List Value} {n n':Nat} {f:Obj->Obj} (I:Inv X pins σ H s) (h:H p=some (.lst xs))
    (ho:s.heap.get? p=some { cls:=.type "list",data:=.seq its.toArray n }) (hf:f { cls:=.type "list",data:=.seq its.toArray n }={ cls:=.type "list",data:=.seq its'.toArray n' }) (r:Vals ys its') (hz:ys.length <= sizeLine) (t:Nat) :
    Inv X pins σ (upd H p (.lst ys)) { s with heap:=s.heap.update p f,toks:=t }:=by
  have e:(s.heap.update p f).get? p=some { cls:=.type "list",data:=.seq its'.toArray n' }:=by
    rw[Heap.get?_update_self f ho (by rw[hf] <;> rfl),hf]
  refine I.write (x:=p) (e:=p) (by rw[h];trivial) (.inl rfl) (fun b u hb q=>(Heap.get?_update_other _ _ (Ne.symm hb)).trans q) ⟨_,e⟩ ?_
  exact⟨hz,its',n',r,e⟩
def rSetL:V->V->V->Hp->(Hp->Prop)->Prop:=fun o i v H Q=>∃ p xs k j,o=.ref p/\i=.int k/\H p=some (.lst xs)/\ixN xs.length k=some j/\Q (upd H p (.lst (xs.set j v)))
theorem set_list:PSet X rSetL:=by
  intro pins s σ H o i v ov iv u Q I ro ri rv h
  obtain⟨p,xs,k,j,rfl,rfl,hp,hj,q⟩:=h
  cases ro
  obtain⟨t,rfl⟩:=ri
  obtain⟨its,n,r,ho,hz⟩:=I.lst hp
  obtain⟨h1,h2,h3,h4⟩:=ixN_seq hj
  have hl:=r.length
  have hn:=line63
  have I':Inv X pins σ (upd H p (.lst (xs.set j v))) { s with heap:=s.heap.update p (Obj.mapSeq (·.setIfInBounds j u)) }:=
    I.lstUpd hp ho (mapSeq_set its n j u) (r.set rv j) (by rw[List.length_set];exact hz) s.toks
  by_cases h0:0 <= k
  · have hk:k.toNat=j:=by
      rw[seqIndex_of h0 h4] at h1
      exact Option.some.inj h1
    exact PySem.W.ki_setAt ho h0 (by omega) (by rw[List.size_toArray,<- hl];exact h4) (by rw[hk];exact⟨_,I',q⟩)
  · have hk:(k+(its.toArray.size:Int)).toNat=j:=by
      rw[seqIndex_neg (by omega) h3] at h1
      rw[List.size_toArray,<- hl]
      exact Option.some.inj h1
    exact PySem.W.ki_setBack ho (by omega) (by rw[List.size_toArray,<- hl];exact h3) (by omega) (by rw[hk];exact⟨_,I',q⟩)
theorem slice_bounds (lo hi:Option Int) (n:Nat):(sliceBounds lo hi none n).1=((HT.sIx n 0 lo:Nat):Int)/\(sliceBounds lo hi none n).2.1=((HT.sIx n n hi:Nat):Int)/\(sliceBounds lo hi none n).2.2=1:=by
  refine⟨?_,?_,rfl⟩
  · cases lo with
    | none=>simp[sliceBounds,HT.sIx]
    | some i=>
      simp only[sliceBounds,HT.sIx,Option.getD_none,show (1:Int) > 0 by decide,if_true]
      by_cases h:i < 0
      · simp only[h,if_true] <;> omega
      · simp only[h,if_false] <;> omega
  · cases hi with
    | none=>simp[sliceBounds,HT.sIx]
    | some i=>
      simp only[sliceBounds,HT.sIx,Option.getD_none,show (1:Int) > 0 by decide,if_true]
      by_cases h:i < 0
      · simp only[h,if_true] <;> omega
      · simp only[h,if_false] <;> omega
theorem slicePick_cut (its:List Value) (lo hi:Option Int):slicePick its.toArray lo hi none=((its.drop (HT.sIx its.length 0 lo)).take (HT.sIx its.length its.length hi - HT.sIx its.length 0 lo)).toArray:=by
  obtain⟨h1,h2,h3⟩:=slice_bounds lo hi its.toArray.size
  unfold slicePick
  rw[h1,h2,h3]
  simp only[sliceRange_one,pick_run,List.size_toArray] <;> rfl
def rSlL (K:PySem.W.Frag):V->Option Int->Option Int->Hp->VK->Prop:=fun x lo hi H Q=>∃ a xs,x=.ref a/\SqL K H a xs/\∀ p,H p=none->Q (.ref p) (upd H p (.lst (cutV xs lo hi)))
theorem sl_list:SlR X (rSlL X.K):=by
  intro pins s σ H x v vl vu lo hi sl Q I rx hs pl pu h
  obtain⟨a,xs,rfl,hx,q⟩:=h
  cases rx
  obtain⟨its,r,ht,hz⟩:=I.list hx
  have hlen:=r.length
  refine⟨"list",_,slot_list_getitem.lookup,ht.isList.typeIs,?_⟩
  refine wpAny_getItem_list_slice ht.isList hs pl pu .none (by simp) ?_ (by rw[List.size_toArray] <;> omega)
  rw[slicePick_cut,<- hlen]
  refine⟨.ref s.heap.objs.size,_,I.laid (t':=s.toks) (o:=.lst (cutV xs lo hi)) (fun b ob q=>Heap.get?_push_of_some _ q) (Nat.le_refl _) ?_,rfl,q _ (I.hok.fresh (Nat.le_refl _))⟩
  exact⟨Nat.le_trans (cutV_length xs lo hi) hz,_,0,(r.drop (HT.sIx xs.length 0 lo)).take (HT.sIx xs.length xs.length hi - HT.sIx xs.length 0 lo),Heap.get?_push_size _ rfl⟩
noncomputable def flatV:V->Bool
  | .non=>true
  | .bl _=>true
  | .int _=>true
  | .str _=>true
  | _=>false
noncomputable def eqV:V->V->Bool
  | .non,.non=>true
  | .bl a,.bl b=>a == b
  | .bl a,.int b=>(if a then 1 else 0) == b
  | .int a,.bl b=>a == (if b then 1 else 0)
  | .int a,.int b=>a == b
  | .str a,.str b=>a == b
  | _,_=>false
theorem eqAt_V {A:Around} {s:Shared} {y x:V} {u v:Value} (ry:RelV y u) (rx:RelV x v) (fy:flatV y=true) (fx:flatV x=true):SeqAt.EqAt A s u v (eqV y x):=by
  cases y with
  | non=>
    cases ry
    cases x with
    | non=>cases rx;exact SeqAt.EqAt.same _
    | bl b=>cases rx;exact SeqAt.EqAt.none_bool b
    | int b=>obtain⟨t,rfl⟩:=rx;exact SeqAt.EqAt.none_int b t
    | str b=>obtain⟨t,rfl⟩:=rx;exact SeqAt.EqAt.none_str b t
    | _=>exact absurd (show false=true from fx) Bool.false_ne_true
  | bl a=>
    cases ry
    cases x with
    | non=>cases rx;exact SeqAt.EqAt.bool_none a
    | bl b=>cases rx;exact SeqAt.EqAt.bool_bool a b
    | int b=>obtain⟨t,rfl⟩:=rx;exact SeqAt.EqAt.bool_int a b t
    | str b=>obtain⟨t,rfl⟩:=rx;exact SeqAt.EqAt.bool_str a b t
    | _=>exact absurd (show false=true from fx) Bool.false_ne_true
  | int a=>
    obtain⟨t',rfl⟩:=ry
    cases x with
    | non=>cases rx;exact SeqAt.EqAt.int_none a t'
    | bl b=>cases rx;exact SeqAt.EqAt.int_bool a t' b
    | int b=>obtain⟨t,rfl⟩:=rx;exact SeqAt.EqAt.int_int a t' b t
    | str b=>obtain⟨t,rfl⟩:=rx;exact SeqAt.EqAt.int_str a t' b t
    | _=>exact absurd (show false=true from fx) Bool.false_ne_true
  | str a=>
    obtain⟨t',rfl⟩:=ry
    cases x with
    | non=>cases rx;exact SeqAt.EqAt.str_none a t'
    | bl b=>cases rx;exact SeqAt.EqAt.str_bool a t' b
    | int b=>obtain⟨t,rfl⟩:=rx;exact SeqAt.EqAt.str_int a t' b t
    | str b=>obtain⟨t,rfl⟩:=rx;exact SeqAt.EqAt.str_str a t' b t
    | _=>exact absurd (show false=true from fx) Bool.false_ne_true
  | _=>exact absurd (show false=true from fy) Bool.false_ne_true
theorem call_len_seq:CallR X (.builtin "len") (fun xs H Q=>∃ p ys,xs=[.ref p]/\(SqL X.K H p ys\/SqT X.K H p ys)/\Q (.int ys.length) H):=by
  intro pins s σ H xs us Q I r h
  obtain⟨p,ys,rfl,hq,q⟩:=h
  obtain⟨u,rfl,rx⟩:=vals1 r
  cases rx
  have hn:=line63
  rcases hq with hq | hq
  · obtain⟨its,r',pl,hz⟩:=I.list hq
    have hlen:=r'.length
    exact Calls.call_len_list pl.isList (by simp only[List.size_toArray] <;> omega) ⟨.int ys.length,H,I.tok _,⟨s.toks+1,by rw[List.size_toArray,hlen]⟩,q⟩
  · obtain⟨its,r',pl,hz⟩:=I.tuple hq
    have hlen:=r'.length
    exact len_tuple pl (by simp only[List.size_toArray] <;> omega) ⟨.int ys.length,H,I.tok _,⟨s.toks+1,by rw[List.size_toArray,hlen]⟩,q⟩
theorem call_list_of:CallR X (.type "list") (fun xs H Q=>∃ p ys,xs=[.ref p]/\(SqL X.K H p ys\/SqT X.K H p ys)/\∀ l,H l=none->Q (.ref l) (upd H l (.lst ys))):=by
  intro pins s σ H xs us Q I r h
  obtain⟨p,ys,rfl,hq,q⟩:=h
  obtain⟨u,rfl,rx⟩:=vals1 r
  cases rx
  have fin:∀ (its:List Value),Vals ys its->ys.length <= sizeLine->∀ (h':Heap) (c':Nat),(∀ b o',s.heap.get? b=some o'->h'.get? b=some o') ->
      h'.get? s.heap.objs.size=some { cls:=.type "list",dict:=none,data:=.seq its.toArray c',slots:=#[] }->EP X pins σ Q (.ref s.heap.objs.size) { s with heap:=h' }:=fun its r' hz h' c' kp e=>
    ⟨.ref s.heap.objs.size,_,I.laid (t':=s.toks) kp (Nat.le_refl _) (show ObjOk X.prog X.w _ h' _ (.lst ys) from ⟨hz,its,c',r',e⟩),rfl,q _ (I.hok.fresh (Nat.le_refl _))⟩
  rcases hq with hq | hq
  · obtain⟨its,r',pl,hz⟩:=I.list hq
    have hlen:=r'.length
    obtain⟨o,ho,hc,n,hd⟩:=pl.isList
    exact call_list_seq p (.inl rfl) ho hc hd (fun h' c' kp e=>fin its r' hz h' c' kp e) (by simp only[List.size_toArray] <;> omega)
  · obtain⟨its,r',pl,hz⟩:=I.tuple hq
    have hlen:=r'.length
    obtain⟨o,ho,hc,n,hd⟩:=pl
    exact call_list_seq p (.inr rfl) ho hc hd (fun h' c' kp e=>fin its r' hz h' c' kp e) (by simp only[List.size_toArray] <;> omega)
theorem call_tuple_of:CallR X (.type "tuple") (fun xs H Q=>∃ p ys,xs=[.ref p]/\((SqL X.K H p ys/\∀ l,H l=none->Q (.ref l) (upd H l (.tup ys)))\/(SqT X.K H p ys/\Q (.ref p) H))):=by
  intro pins s σ H xs us Q I r h
  obtain⟨p,ys,rfl,h⟩:=h
  obtain⟨u,rfl,rx⟩:=vals1 r
  cases rx
  rcases h with ⟨hq,q⟩ | ⟨hq,q⟩
  · obtain⟨its,r',pl,hz⟩:=I.list hq
    have hlen:=r'.length
    refine call_tuple_list pl.isList (fun h' kp=>?_) (by simp only[List.size_toArray] <;> omega)
    have I1:Inv X pins σ H { s with heap:=h' }:=I.kept (t':=s.toks) kp
    have I2:Inv X pins σ (upd H h'.objs.size (.tup ys)) { s with heap:=h'.push { cls:=.type "tuple",data:=.seq its.toArray } }:=
      I1.laid (t':=s.toks) (fun b o e=>Heap.get?_push_of_some _ e) (Nat.le_refl _) (show ObjOk X.prog X.w _ _ _ (.tup ys) from ⟨⟨hz,TpN.new _ _ rfl⟩,its,r',IsTup.new _ _⟩)
    exact⟨.ref h'.objs.size,_,I2,rfl,q _ (I1.hok.fresh (Nat.le_refl _))⟩
  · obtain⟨its,r',pl,hz⟩:=I.tuple hq
    exact call_tuple_same pl ⟨.ref p,H,I,rfl,q⟩
def tyV (K:PySem.W.Frag) (T:String) (x:V) (H:Hp):Prop:=match x with
  | .str _=>T = "str"
  | .int _=>T = "int"
  | .ref p=>(T = "list"/\∃ xs,SqL K H p xs)\/(T = "tuple"/\∃ o,K.lookup p=some o/\o.cls=.type "tuple"/\o.dict=none) \/
      (T = "dict"/\((∃ kvs,H p=some (.dK kvs))\/∃ kvs,H p=some (.dT kvs)))\/(T = "set"/\∃ S n,H p=some (.set S n))
  | _=>False
theorem tyV_is {pins:List (Addr × Obj)} {σ:St} {H:Hp} {s:Shared} {T:String} {x:V} {v:Value} (I:Inv X pins σ H s) (r:RelV x v) (ty:tyV X.K T x H) :
    s.TypeIs v T/\∀ a,v=.ref a->∃ ob,s.heap.get? a=some ob/\ob.dict=none:=by
  cases x with
  | str z=>
    obtain⟨t,rfl⟩:=r
    cases (show T = "str" from ty)
    exact⟨typeIs_str s z t,fun _ e=>nomatch e⟩
  | int i=>
    obtain⟨t,rfl⟩:=r
    cases (show T = "int" from ty)
    exact⟨typeIs_int s i t,fun _ e=>nomatch e⟩
  | ref p=>
    cases r
    rcases ty with ⟨rfl,xs,hq⟩ | ⟨rfl,o,hk,hc,hd⟩ | ⟨rfl,hk⟩ | ⟨rfl,S,n,hk⟩
    · obtain⟨its,_,pl,_⟩:=I.list hq
      refine⟨pl.isList.typeIs,fun a e=>?_⟩
      cases e
      obtain⟨o,n,e,c,hd,_⟩:=pl
      exact⟨o,e,hd⟩
    · refine⟨⟨o,I.kIn p o hk,hc⟩,fun a e=>?_⟩
      cases e
      exact⟨o,I.kIn _ o hk,hd⟩
    · have z:∃ o,s.heap.get? p=some o/\o.ExactDict:=by
        rcases hk with ⟨kvs,hk⟩ | ⟨kvs,hk⟩
        · obtain⟨_,_,_,_,o,_,_,e,ex,_⟩:=I.hok p _ hk
          exact⟨o,e,ex⟩
        · obtain⟨_,_,_,_,o,_,_,e,ex,_⟩:=I.hok p _ hk
          exact⟨o,e,ex⟩
      obtain⟨o,e,ex⟩:=z
      refine⟨⟨o,e,ex.1⟩,fun a e2=>?_⟩
      cases e2
      exact⟨o,e,ex.2.1⟩
    · obtain⟨o,_,_,_,e,ex,_⟩:=I.hok p _ hk
      refine⟨⟨o,e,ex.1⟩,fun a e2=>?_⟩
      cases e2
      exact⟨o,e,ex.2.1⟩
  | _=>exact False.elim ty
def tBM0 (K:PySem.W.Frag) (T:String) (r:V->List V->Hp->VK->Prop) (to:TE):TE:=fun σ H Q=>to σ H fun x H1=>tyV K T x H1/\r x [] H1 Q
def tBM (K:PySem.W.Frag) (T:String) (r:V->List V->Hp->VK->Prop) (to:TE) (t:TA):TE:=fun σ H Q=>to σ H fun x H1=>tyV K T x H1/\t σ H1 fun xs H2=>r x xs H2 Q
variable {o e:Expr} {es:List Expr} {to:TE} {t:TA} {name:Str} {apos cpos:Pos} {T id:String} {r:V->List V->Hp->VK->Prop}
theorem pe_bm0 (pa:PlainAttrs T) (slot:Slot T name id) (hty:typeOf (.builtin id)=pure (.type "method_descriptor")) (hm:MtR X id r) (ho:PE X o to)
    (hbase:attributeBase o name X.env (eval o X.env)=eval o X.env:=by rfl) (hline:(apos.endLine == cpos.line)=true:=by rfl):PE X (.Call (.Attribute o name apos) [] [] cpos) (tBM0 X.K T r to):=by
  intro pins s σ H Q I h
  refine wpAny_Call_method0_late hbase hline (thn (ho pins s σ H _ I h) fun v s1 ⟨x,H1,I1,r1,ty,q1⟩=>?_)
  obtain⟨h1,h2⟩:=tyV_is I1 r1 ty
  exact⟨T,id,pa,slot,hty,h1,h2,Calls.callWith_builtin rfl (PySem.evalArgs_none (hm pins s1 σ H1 x [] v [] Q I1 r1 .nil q1))⟩
theorem pe_bm (pa:PlainAttrs T) (slot:Slot T name id) (hty:typeOf (.builtin id)=pure (.type "method_descriptor")) (hm:MtR X id r) (ho:PE X o to) (ha:PA X (e::es) t)
    (hbase:attributeBase o name X.env (eval o X.env)=eval o X.env:=by rfl)
    (hfew:((backTo cpos (starEach (e::es) X.env)).all (fun x=>!x.1) && (backToKw cpos (keywordEach [] X.env)).all (fun x=>x.1.isSome)
      && decide ((e::es).length+([]:List Keyword).length+(if ([]:List Keyword).isEmpty then 0 else 1) < 30))=true:=by rfl)
    (hline:(apos.endLine == cpos.line)=true:=by rfl) (hs:starEach (e::es) X.env=(false,eval e X.env)::starEach es X.env:=by rfl) (hplain:(backTo cpos (starEach es X.env)).any (·.1)=false:=by rfl) :
    PE X (.Call (.Attribute o name apos) (e::es) [] cpos) (tBM X.K T r to t):=by
  intro pins s σ H Q I h
  refine wpAny_Call_method_late hbase hfew hline rfl (thn (ho pins s σ H _ I h) fun v s1 ⟨x,H1,I1,r1,ty,q1⟩=>?_)
  obtain⟨h1,h2⟩:=tyV_is I1 r1 ty
  refine⟨T,id,pa,slot,hty,h1,h2,?_⟩
  have hA:=ha cpos pins s1 σ H1 _ I1 q1
  rw[hs] at hA ⊢
  refine Calls.callWith_builtin (by show (false || (backTo cpos (starEach es X.env)).any (·.1))=false;rw[hplain] <;> rfl) (Calls.evalArgs_plain ?_)
  exact thn hA fun us s2 ⟨vs,H2,I2,r2,q2⟩=>hm pins s2 σ H2 x vs v us Q I2 r1 r2 q2
end
end L2
namespace L2
open PySem PySem.Spec PyProof.Rows
def MtM (X:Cx) (id:String) (r:V->List V->Hp->VK->Prop):Prop:=
  ∀ (pins:List (Addr × Obj)) (s:Shared) (σ:St) (H:Hp) (x:V) (xs:List V) (v:Value) (us:List Value) (Q:VK),Inv X pins σ H s->RelV x v->Vals xs us->r x xs H Q ->
    wpAny (model X.prog X.w) X.A (call (.builtin id) (v::us)) (EP X pins σ Q) X.xe s
theorem Vals.one:∀ {x:V} {us:List Value},Vals [x] us->∃ u,us=[u]/\RelV x u
  | _,_,.cons r .nil=>⟨_,rfl,r⟩
theorem Vals.zero:∀ {us:List Value},Vals [] us->us=[]
  | _,.nil=>rfl
theorem Vals.dropLast {xs:List V} {us:List Value} (h:Vals xs us):Vals xs.dropLast us.dropLast:=by
  induction h with
  | nil=>exact .nil
  | cons r t ih=>
    cases t with
    | nil=>exact .nil
    | cons q t'=>exact .cons r ih
theorem Vals.reverse {xs:List V} {us:List Value} (h:Vals xs us):Vals xs.reverse us.reverse:=by
  induction h with
  | nil=>exact .nil
  | cons r t ih=>rw[List.reverse_cons,List.reverse_cons];exact Vals.append ih (.cons r .nil)
theorem Vals.rep {xs:List V} {us:List Value} (h:Vals xs us):∀ k:Nat,Vals (List.replicate k xs).flatten (List.replicate k us).flatten
  | 0=>.nil
  | k+1=>by
    rw[List.replicate_succ,List.replicate_succ,List.flatten_cons,List.flatten_cons]
    exact Vals.append h (Vals.rep h k)
theorem erase_last {α:Type} (l:List α):l.eraseIdx (l.length - 1)=l.dropLast:=by
  induction l with
  | nil=>rfl
  | cons a r ih=>
    cases r with
    | nil=>rfl
    | cons b r=>
      have e:(a::b::r).length - 1=((b::r).length - 1)+1:=by
        have h1:(a::b::r).length=r.length+2:=rfl
        have h2:(b::r).length=r.length+1:=rfl
        omega
      rw[e,List.eraseIdx_cons_succ,ih]
      all_goals rfl
theorem foldl_rep (its:List Value):∀ (k:Nat) (acc:List Value),
    List.foldl (fun x1 x2=>x1++x2) acc.toArray (List.replicate k its.toArray)=(acc++(List.replicate k its).flatten).toArray
  | 0,acc=>by simp
  | k+1,acc=>by
    have e:acc.toArray++its.toArray=(acc++its).toArray:=by simp
    have e2:(acc++its)++(List.replicate k its).flatten=acc++(List.replicate (k+1) its).flatten:=by
      rw[List.replicate_succ,List.flatten_cons,List.append_assoc]
    rw[<- e2,<- foldl_rep its k (acc++its),<- e,List.replicate_succ,List.foldl_cons]
section
variable {X:Cx} {pins:List (Addr × Obj)} {σ:St} {H:Hp} {s:Shared} {l b:Addr} {xs ys zs:List V}
theorem Inv.lset {its its':List Value} {n:Nat} {f:Array Value->Array Value} {t':Nat} (I:Inv X pins σ H s) (hH:H l=some (.lst xs))
    (e:s.heap.get? l=some { cls:=.type "list",data:=.seq its.toArray n }) (hf:f its.toArray=its'.toArray) (hv:Vals ys its') (hz:ys.length <= sizeLine) :
    Inv X pins σ (upd H l (.lst ys)) { s with heap:=s.heap.update l (Obj.mapSeq f),toks:=t' }:=by
  have q:=PySem.IsL.update e f
  rw[hf] at q
  refine I.write (x:=l) (e:=l) (by rw[hH];exact trivial) (.inl rfl) (fun b' u hb hu=>(Heap.get?_update_other s.heap (Obj.mapSeq f) (Ne.symm hb)).trans hu) ⟨_,q⟩ ?_
  exact⟨hz,its',_,hv,q⟩
theorem Inv.lnew {its:List Value} {t':Nat} (I:Inv X pins σ H s) (hv:Vals ys its) (hz:ys.length <= sizeLine) :
    Inv X pins σ (upd H s.heap.objs.size (.lst ys)) { s with heap:=s.heap.push { cls:=.type "list",data:=.seq its.toArray },toks:=t' }:=
  I.laid (fun _ _ q=>Heap.get?_push_of_some _ q) (Nat.le_refl _) ⟨hz,its,0,hv,Heap.get?_push_size _ rfl⟩
theorem Inv.fresh (I:Inv X pins σ H s):H s.heap.objs.size=none:=I.hok.fresh (Nat.le_refl _)
theorem Inv.lstM (I:Inv X pins σ H s) (hH:H l=some (.lst xs)):xs.length <= sizeLine/\∃ (its:List Value) (n:Nat),Vals xs its/\xs.length=its.length/\s.heap.get? l=some { cls:=.type "list",data:=.seq its.toArray n }:=by
  obtain⟨z,its,n,r,e⟩:=I.hok l _ hH
  exact⟨z,its,n,r,r.length,e⟩
theorem notLongL {n:Nat} (h:n <= sizeLine):Builtin.List.listTooLong n=false:=by
  unfold Builtin.List.listTooLong
  exact decide_eq_false (by omega)
end
section
variable {X:Cx}
def rAppend:V->List V->Hp->VK->Prop:=fun x vs H Q=>∃ l xs y,x=.ref l/\vs=[y]/\H l=some (.lst xs)/\xs.length < sizeLine/\Q .non (upd H l (.lst (xs++[y])))
theorem mt_append:MtM X "list.append" rAppend:=by
  intro pins s σ H x vs v us Q I rx rv h
  obtain⟨l,xs,y,rfl,rfl,hH,hz,q⟩:=h
  cases rx
  obtain⟨u,rfl,ru⟩:=rv.one
  obtain⟨z,its,n,r,hl,e⟩:=I.lstM hH
  refine call_meets F.slot_list_append ⟨_,e,rfl⟩ F.entry_list_append (F.args_list_append_2 _ _) (PySem.list_append l its.toArray n u (by rw[List.size_toArray];omega)) ⟨e,?_⟩
  refine⟨.non,_,I.lset (its':=its++[u]) hH e (by simp) (r.append (.cons ru .nil)) ?_,rfl,q⟩
  rw[List.length_append,List.length_singleton]
  omega
def rPop:V->List V->Hp->VK->Prop:=fun x vs H Q=>∃ l xs y,x=.ref l/\vs=[]/\H l=some (.lst xs)/\xs[xs.length - 1]?=some y/\Q y (upd H l (.lst xs.dropLast))
theorem mt_pop:MtM X "list.pop" rPop:=by
  intro pins s σ H x vs v us Q I rx rv h
  obtain⟨l,xs,y,rfl,rfl,hH,hy,q⟩:=h
  cases rx
  have hus:=rv.zero
  subst hus
  obtain⟨z,its,n,r,hl,e⟩:=I.lstM hH
  obtain⟨u,hu,ru⟩:=r.get hy
  have hy':its.toArray[its.toArray.size - 1]?=some u:=by
    show its.toArray[its.length - 1]?=some u
    rw[<- Array.getElem?_toList,<- hl]
    exact hu
  refine call_meets F.slot_list_pop ⟨_,e,rfl⟩ F.entry_list_pop (F.args_list_pop_1 _) (MeetsSeq.list_pop_last l its.toArray n u hy' (by rw[List.size_toArray];omega)) ⟨e,?_⟩
  refine⟨y,_,I.lset (its':=its.dropLast) hH e ?_ r.dropLast ?_,ru,q⟩
  · show its.toArray.eraseIdxIfInBounds (its.toArray.size - 1)=its.dropLast.toArray
    rw[List.size_toArray,List.eraseIdxIfInBounds_toArray,erase_last]
  · rw[List.length_dropLast]
    omega
noncomputable def rCat:R2:=fun x y H Q=>∃ l b xs zs,x=.ref l/\y=.ref b/\H l=some (.lst xs)/\H b=some (.lst zs)/\xs.length+zs.length <= sizeLine/\∀ p,H p=none->Q (.ref p) (upd H p (.lst (xs++zs)))
theorem op_cat:OpR X (binaryOp .Add) rCat:=by
  intro pins s σ H x y v u Q I rx ry h
  obtain⟨l,b,xs,zs,rfl,rfl,hH,hB,hz,q⟩:=h
  cases rx
  cases ry
  obtain⟨z,its,n,r,hl,e⟩:=I.lstM hH
  obtain⟨z2,its2,n2,r2,hl2,e2⟩:=I.lstM hB
  refine PySem.P.add_list e e2 ?_ (by rw[List.size_toArray,List.size_toArray];omega)
  have ea:its.toArray++its2.toArray=(its++its2).toArray:=by simp
  rw[ea]
  exact⟨.ref _,_,I.lnew (t':=s.toks) (r.append r2) (by rw[List.length_append];omega),rfl,q _ I.fresh⟩
noncomputable def rRep:R2:=fun x y H Q=>∃ l k xs,x=.ref l/\y=.int k/\H l=some (.lst xs)/\-(2 ^ 63) <= k/\k < 2 ^ 63/\xs.length * k.toNat <= sizeLine /\
  ∀ p,H p=none->Q (.ref p) (upd H p (.lst (List.replicate k.toNat xs).flatten))
theorem len_rep {α:Type} (xs:List α) (k:Nat):(List.replicate k xs).flatten.length=k * xs.length:=by
  induction k with
  | zero=>simp
  | succ k ih=>rw[List.replicate_succ,List.flatten_cons,List.length_append,ih,Nat.succ_mul,Nat.add_comm]
theorem op_rep:OpR X (binaryOp .Mult) rRep:=by
  intro pins s σ H x y v u Q I rx ry h
  obtain⟨l,k,xs,rfl,rfl,hH,h1,h2,hz,q⟩:=h
  cases rx
  obtain⟨t,rfl⟩:=ry
  obtain⟨z,its,n,r,hl,e⟩:=I.lstM hH
  have hlen:its.toArray.size * k.toNat <= sizeLine:=by rw[List.size_toArray,<- hl];exact hz
  have hcap:¬ its.toArray.size * k.toNat > (2 ^ 63 - 1) / 8:=by
    have:(sizeLine:Nat) <= (2 ^ 63 - 1) / 8:=by decide
    omega
  have hfit:¬ (!Builtin.List.listFitsIndex k)=true:=by
    rw[fitsIndex_both h1 h2]
    exact Bool.false_ne_true
  have hlong:¬ Builtin.List.listTooLong (its.toArray.size * k.toNat)=true:=by
    rw[notLongL hlen]
    exact Bool.false_ne_true
  have hnew:List.foldl (fun x1 x2=>x1++x2) #[] (List.replicate (if its.toArray.isEmpty=true then 0 else k.toNat) its.toArray)=(List.replicate k.toNat its).flatten.toArray:=by
    have f0:∀ m:Nat,List.foldl (fun x1 x2=>x1++x2) #[] (List.replicate m its.toArray)=(List.replicate m its).flatten.toArray:=fun m=>by
      have:=foldl_rep its m []
      rw[List.nil_append] at this
      exact this
    rw[f0]
    cases its with
    | nil=>simp
    | cons a r'=>rw[if_neg (by simp)]
  refine wpAny_binaryOp_repeat_ref (T:="list") (U:="int") (by decide) ⟨_,e,rfl⟩ (fun s'=>typeIs_int s' k t) noFill_list_mul F.fills_int_mul F.slot_int_rmul repeat_list F.slot_int_index.lookup
    (call_meets F.slot_int_rmul (typeIs_int s k t) F.entry_int_rmul (F.args_int_rmul_2 _ _) (int___rmul___int_list k t l its.toArray n)
      ⟨e,rfl,⟨_,e,rfl⟩,call_meets F.slot_list_mul ⟨_,e,rfl⟩ F.entry_list_mul (F.args_list_mul_2 _ _) (AutoListH.list___mul___list_int_3 l its.toArray n k t hfit hcap hlong) ⟨e,?_⟩⟩)
  rw[hnew]
  exact⟨.ref _,_,I.lnew (t':=s.toks) (r.rep k.toNat) (by rw[len_rep,Nat.mul_comm];exact hz),rfl,q _ I.fresh⟩
end
section
variable {prog:Program} {w:World} {A:Around} {E:Value->Shared->Prop} {s:Shared}
end
section
variable {X:Cx}
end
end L2
namespace Att
open PySem PySem.W PySem.Calls PyProof.Rows
theorem ints_of_wellAll {P:Params} {h:Heap}:∀ (ns:List Int) (vs:List Value),WellAll P h vs (ns.map WData.int)->IntsAre vs ns:=by
  intro ns
  induction ns with
  | nil=>
    intro vs w
    rw[List.map_nil] at w
    cases w
    exact .nil
  | cons n ns ih=>
    intro vs w
    rw[List.map_cons] at w
    cases w with
    | cons a b=>
      cases a
      exact .cons _ _ (ih _ b)
theorem script_of {l:OpenLaw} {n:Nat} (hn:l.most=some n) {P:Params} {h:Heap} {args:List WData} {vals:List Value}
    (hpre:l.row.toRowW.claim.pre args=true) (hwl:WellAll P h vals args) :
    ∃ a vs ns,vals=[Value.ref a]/\args=[WData.list (ns.map WData.int)]/\h.get? a=some { cls:=.type "list",data:=.seq vs.toArray }/\IntsAre vs ns/\ns.length <= n:=by
  have hsh:WShape.hasAll [] args [.list .int]=true:=(pre_splitW hpre).1
  have hc:l.pre.holds [] { args:=args }=true:=(pre_splitW hpre).2
  obtain⟨d,r,rfl,h1,h2⟩:=hasAllW_cons hsh
  obtain rfl:=hasAllW_nil h2
  obtain⟨xs,rfl,h3⟩:=hasW_list h1
  obtain⟨ns,rfl⟩:=items_int h3
  have hlen:ns.length <= n:=by
    unfold OpenLaw.pre at hc
    have h4:(WTm.not (.lt (.lit (.int (n:Int))) (.len (.arg 0)))).holds [] { args:=[.list (ns.map .int)] }=true:=by
      have h4:=(holds_andW hc).1
      rw[hn] at h4
      exact h4
    have h5:=condW_of h4 (w_not (w_lt w_lit (w_len_list (w_arg rfl))))
    rw[List.length_map] at h5
    refine Nat.le_of_not_lt fun q=>?_
    have q':(n:Int) < ((ns.length:Nat):Int):=by omega
    first
      | (rw[decide_eq_true q'] at h5;exact absurd h5 (by decide))
      | (simp at h5;omega)
  cases hwl with
  | cons w1 w2=>
    cases w2
    cases w1 with
    | list ho hall=>exact⟨_,_,ns,rfl,rfl,ho,ints_of_wellAll ns _ hall,hlen⟩
theorem post_true (l:OpenLaw) (args:List WData):l.row.toRowW.claim.post args (.bool true) args=true:=
  postW_of (r:=l.row.toRowW) (X:=(true == true))
    (show WShape.has [] (.bool true) .bool=true by first | rfl | decide | simp[WShape.has,WShape.arms,WShape.armsAll])
    (show (WTm.eq .res (.lit (.bool true))).value [] { args:=args,res:=some (.bool true),after:=args }=some (.bool (true == true)) from w_eq_bool (w_res rfl) w_lit) rfl
theorem attach_call {l:OpenLaw} {n:Nat} {q:Program} {loose:List Str} {XP:(Str->Option Value)->Heap->Prop} {YP:World->Heap->Prop} {d:DefRec}
    (hn:l.most=some n) (hdf:d.params.defaults=[])
    (call:∀ (w:World) (s₀ s₁:Shared) (mg mb:Str->Option Value) (fa:Addr) (o:Obj) (pm cd doc:Value) (a:Addr) (vs:List Value) (ns:List Int),
      Ground q loose [] XP w s₀ mg mb s₁.heap->YP w s₁.heap ->
      s₁.heap.get? fa=some o->o.data=.func (docDef d.name d.params d.body d.scope pm cd doc)->s₁.heap.CodeRec cd d.name->mg d.name=some (.ref fa) ->
      s₁.heap.get? a=some { cls:=.type "list",data:=.seq vs.toArray }->IntsAre vs ns->ns.length <= n->s₁.gens = #[] ->
      codeAny (model l.prog w) callerA (.call (.ref fa) ⟨[.ref a],[]⟩) (fun r s'=>r=.ok (.ret (.bool true))/\OldK s₁.heap s'.heap/\s'.os=s₁.os/\AllBare s'.gens) s₁) :
    WalkO q loose XP YP l.row.toRowW d [] (fun f vs=>PySem.call f vs):=by
  intro w s₀ s₁ mg mb G Y fa o pm cd doc dV kV ho hd hcd hD hmg hg args vals as hpre hlay hrd hwl hlo
  obtain rfl:dV=.none:=Dflts.none hD hdf
  obtain rfl:kV=.none:=Dflts.noKw hD
  obtain⟨a,vs,ns,rfl,rfl,hobj,hints,hlen⟩:=script_of hn hpre hwl
  refine enter_call (codeAny_mono (call w s₀ s₁ mg mb fa o pm cd doc a vs ns G Y ho (fd_plain hd) hcd hmg hobj hints hlen hg) fun r s' hq=>?_)
  obtain⟨rfl,h2,h3,h4⟩:=hq
  exact⟨.inl ⟨.bool true,.bool true,[],rfl,fun _=>rfl,.bool true,post_true l _,fun _=>⟨List.Pairwise.nil,fun _ hm=>(nomatch hm)⟩⟩,h2,h3,h4⟩
section
variable {prog:Program} {w:World} {A:Around} {E:Value->Shared->Prop} {s:Shared} {K:Frag}
end
end Att
namespace L2
open PySem PySem.Spec PyProof.Rows
theorem vals_ints:∀ {vs:List Value} {ns:List Int},IntsAre vs ns->Vals (ns.map V.int) vs
  | _,_,.nil=>.nil
  | _,_,.cons n t h=>.cons ⟨t,rfl⟩ (vals_ints h)
def Only (H:Hp):Prop:=∀ b,H b=none\/∃ o xs,H b=some (.frz o (.lst xs))
theorem law_call {P:Program} {w:World} {K:PySem.W.Frag} {mg mb:Str->Option Value} {CX:CXT} {k:Nat} {fa a:Addr} {fd:FuncData} {x:Str} {sp:Sp} {s₁:Shared} {vs:List Value} {ns:List Int}
    (KX:K.In s₁.heap) (hns:s₁.heap.Ns mainGlobals mg) (hb:s₁.heap.Ns builtinsNs mb) (hbb:∀ x:Str,x ≠ "__name__"->mb x=bootBuiltins x) (hlim:s₁.heap.NoLimit) (hg:s₁.gens = #[])
    (ha:s₁.heap.get? a=some { cls:=.type "list",data:=.seq vs.toArray }) (hi:IntsAre vs ns) (hl:ns.length <= sizeLine) (hr:Room k callerA)
    (F:∀ base:Heap,K.In base->base.Ns mainGlobals mg->FnOk P w K mg base CX k fa fd [x] sp) (hbind:∀ (s:Shared) (u:Value),BindsTo s fd ⟨[u],[]⟩ [(x,u)])
    (hsp:∀ H:Hp,Only H->SqL K H a (ns.map V.int)->sp [.ref a] H (fun v _=>v=.bl true) fun _ _ _=>False)
    (hCX:∀ H e s',CX [] H s₁ (fun _ _ _=>False) e s'->False) :
    codeAny (model P w) callerA (.call (.ref fa) ⟨[.ref a],[]⟩) (fun r s'=>r=.ok (.ret (.bool true))/\OldK s₁.heap s'.heap/\s'.os=s₁.os/\AllBare s'.gens) s₁:=by
  have rv:=vals_ints hi
  have lenV:=hi.length
  have core:∀ H:Hp,Only H->SqL K H a (ns.map V.int)->HOk P w H s₁.heap->(∀ b,H b ≠ none->b=a)->(H a ≠ none->K.lookup a=none) ->
      codeAny (model P w) callerA (.call (.ref fa) ⟨[.ref a],[]⟩) (fun r s'=>r=.ok (.ret (.bool true))/\OldK s₁.heap s'.heap/\s'.os=s₁.os/\AllBare s'.gens) s₁:=by
    intro H hO hS hok hA hK
    have base_of:∀ {b:Addr} {o:Obj},s₁.heap.get? b=some o->H b=none->(hidT s₁.heap H).get? b=some o:=fun e n=>hidT_get e n
    have noA:∀ {b:Addr} {o:Obj} {es:Array DictEntry} {ep:Nat},s₁.heap.get? b=some o->o.data=.dict es ep->H b=none:=fun {b o es ep} e d=>by
      cases q:H b with
      | none=>rfl
      | some u=>
        have e':b=a:=hA b (by rw[q];simp)
        subst e'
        rw[ha] at e;cases e
        have d':Data.seq vs.toArray _=Data.dict es ep:=d
        cases d'
    have nsK:∀ {b:Addr} {m:Str->Option Value},s₁.heap.Ns b m->(hidT s₁.heap H).Ns b m:=fun {b m} ⟨o,es,ep,e,d,r⟩=>⟨o,es,ep,base_of e (noA e d),d,r⟩
    have hKb:K.In (hidT s₁.heap H):=fun b o e=>base_of (KX b o e) (by
      cases q:H b with
      | none=>rfl
      | some u=>
        have e':b=a:=hA b (by rw[q];simp)
        subst e'
        rw[hK (by rw[q];simp)] at e;cases e)
    have hM:Mod K mg (hidT s₁.heap H):=⟨hKb,nsK hns,⟨mb,nsK hb,hbb⟩,let ⟨mc,h1,h2⟩:=hlim;⟨mc,nsK h1,h2⟩⟩
    have e0:Env0 P w K mg (hidT s₁.heap H) callerA [] s₁ H:=⟨rfl,hM,fun b o e=>of_hidT e,Nat.le_of_eq (hidT_size _ _),trivial,fun b hb=>absurd (show b ∈ ([]:List Addr) from hb) (by simp),hok,.of_eq hg⟩
    refine codeAny_mono ((F _ hKb (nsK hns)).run callerA [] s₁ H ⟨[.ref a],[]⟩ [.ref a] [.ref a] _ _ hr e0 (hbind s₁ (.ref a)) (.cons rfl .nil) (hsp H hO hS)) fun r s' h=>?_
    cases r with
    | error e=>exact (hCX H e s' h).elim
    | ok fl=>
      cases fl with
      | next=>exact False.elim h
      | brk=>exact False.elim h
      | cont=>exact False.elim h
      | ret u=>
        obtain⟨v,H',os,bare,un,hok',r',q⟩:=h
        have q':v=.bl true:=q
        subst q'
        obtain rfl:u=Value.bool true:=r'
        refine⟨rfl,OldK.of_keep fun b o e=>?_,os,bare⟩
        cases q:H b with
        | none=>exact un.keep b o e q (by intro z;exact absurd (show b ∈ ([]:List Addr) from z) (by simp)) (by simp)
        | some u=>
          rcases hO b with z | ⟨ob,xs,z⟩
          · rw[q] at z;cases z
          · have z2:=un.frzs b ob _ z
            obtain⟨e1,_⟩:=hok b _ z
            obtain⟨e2,_⟩:=hok' b _ z2
            rw[e] at e1;cases e1
            exact e2
  cases hk:K.lookup a with
  | some o=>
    have e:=KX a o hk
    rw[ha] at e
    cases e
    refine core (fun _=>none) (fun _=>.inl rfl) (.inr ⟨_,vs.toArray,_,hk,rfl,rfl,rfl,by rw[List.size_toArray,lenV];exact hl,by simpa using rv⟩) (fun b u z=>by have z':(none:Option HO)=some u:=z;cases z') (fun b z=>absurd rfl z) fun z=>absurd rfl z
  | none=>
    refine core (fun b=>if b=a then some (.frz { cls:=.type "list",data:=.seq vs.toArray } (.lst (ns.map V.int))) else none) (fun b=>?_) (.inl (.inr ⟨{ cls:=.type "list",data:=.seq vs.toArray },if_pos rfl⟩)) (fun b u z=>?_) (fun b z=>?_) fun _=>hk
    · by_cases hb:b=a
      · exact .inr ⟨_,_,if_pos hb⟩
      · exact .inl (if_neg hb)
    · by_cases hb:b=a
      · have z':=(if_pos hb).symm.trans z
        cases z'
        subst hb
        exact⟨ha,by rw[List.length_map];exact hl,vs,_,rv,ha⟩
      · have z':=(if_neg hb).symm.trans z
        cases z'
    · by_cases hb:b=a
      · exact hb
      · exact absurd (if_neg hb) z
end L2
namespace L2
open PySem PySem.Spec PyProof.Rows
abbrev KOf {K:PySem.W.Frag} {h:Heap} (_:K.In h):PySem.W.Frag:=K
theorem walk_of {l:PySem.W.OpenLaw} {n k:Nat} {q:Program} {loose:List Str} {XP:(Str->Option Value)->Heap->Prop} {YP:World->Heap->Prop} {d:DefRec} {K:Params->PySem.W.Frag} {CX:World->CXT} {sp:World->Sp} {x:Str}
    (hn:l.most=some n) (hn2:n <= sizeLine) (hdf:d.params.defaults=[]) (hr:Room k callerA)
    (hY:∀ (w:World) (h:Heap),YP w h->(K w.params).In h)
    (F:∀ (w:World) (mg:Str->Option Value) (fa:Addr) (h:Heap),(K w.params).In h->h.Ns mainGlobals mg->mg d.name=some (.ref fa) ->
      ∃ fd:FuncData,(∀ (s:Shared) (u:Value),BindsTo s fd ⟨[u],[]⟩ [(x,u)]) /\
        ∀ base:Heap,(K w.params).In base->base.Ns mainGlobals mg->FnOk l.prog w (K w.params) mg base (CX w) k fa fd [x] (sp w))
    (hsp:∀ (w:World) (H:Hp) (a:Addr) (ns:List Int),ns.length <= n->Only H->SqL (K w.params) H a (ns.map V.int)->sp w [.ref a] H (fun v _=>v=.bl true) fun _ _ _=>False)
    (hCX:∀ (w:World) (H:Hp) (s:Shared) (e:Value) (s':Shared),CX w [] H s (fun _ _ _=>False) e s'->False) :
    PySem.W.WalkO q loose XP YP l.row.toRowW d [] (fun f vs=>PySem.call f vs):=by
  refine Att.attach_call hn hdf fun w s₀ s₁ mg mb fa o pm cd doc a vs ns G Y ho hd hcd hmg hobj hints hlen hg=>?_
  have KX:=hY w _ Y
  obtain⟨fd,hb,hF⟩:=F w mg fa _ KX G.T.g hmg
  exact law_call KX G.T.g G.T.b G.T.builtins G.T.nolimit hg hobj hints (Nat.le_trans hlen hn2) hr hF hb (fun H hO hS=>hsp w H a ns hlen hO hS) fun H e s'=>hCX w H s₁ e s'
theorem walk_ofK {l:PySem.W.OpenLaw} {n k:Nat} {q:Program} {loose:List Str} {XP:(Str->Option Value)->Heap->Prop} {YP:World->Heap->Prop} {d:DefRec} {K:Params->PySem.W.Frag} {CX:CXT} {sp:PySem.W.Frag->Sp} {x:Str}
    (hn:l.most=some n) (hn2:n <= sizeLine) (hdf:d.params.defaults=[]) (hr:Room k callerA)
    (hY:∀ (w:World) (h:Heap),YP w h->(K w.params).In h)
    (F:∀ (w:World) (mg:Str->Option Value) (fa:Addr) (h:Heap),(K w.params).In h->h.Ns mainGlobals mg->mg d.name=some (.ref fa) ->
      ∃ fd:FuncData,(∀ (s:Shared) (u:Value),BindsTo s fd ⟨[u],[]⟩ [(x,u)]) /\
        ∀ base:Heap,(K w.params).In base->base.Ns mainGlobals mg->FnOk l.prog w (K w.params) mg base CX k fa fd [x] (sp (K w.params)))
    (hsp:∀ (K:PySem.W.Frag) (H:Hp) (a:Addr) (ns:List Int),ns.length <= n->Only H->SqL K H a (ns.map V.int)->sp K [.ref a] H (fun v _=>v=.bl true) fun _ _ _=>False)
    (hCX:∀ (H:Hp) (s:Shared) (e:Value) (s':Shared),CX [] H s (fun _ _ _=>False) e s'->False) :
    PySem.W.WalkO q loose XP YP l.row.toRowW d [] (fun f vs=>PySem.call f vs):=
  walk_of (K:=K) (CX:=fun _=>CX) (sp:=fun w=>sp (K w.params)) hn hn2 hdf hr hY F (fun w H a ns h1 h2 h3=>hsp (K w.params) H a ns h1 h2 h3) fun _ H s e s'=>hCX H s e s'
end L2
namespace L2
open PySem PySem.Spec PyProof.Rows
noncomputable def defArgs (s:Stmt):Arguments:=match s with
  | .FunctionDef _ a _ _ _ _ _ _ _ _=>a
  | _=>{ posonlyargs:=[],args:=[],vararg:=none,kwonlyargs:=[],kw_defaults:=[],kwarg:=none,defaults:=[] }
noncomputable def defBody (s:Stmt):List Stmt:=match s with
  | .FunctionDef _ _ b _ _ _ _ _ _ _=>b
  | _=>[]
noncomputable def defScope (s:Stmt):Scope:=match s with
  | .FunctionDef _ _ _ _ _ _ sc _ _ _=>sc
  | _=>{ kind:=.function,names:=[],isGenerator:=false,isCoroutine:=false }
abbrev CX0:CXT:=fun _ _ _ _ _ _=>False
abbrev E0:XK:=fun _ _ _=>False
theorem pass0 {X:Cx}:Passes CX0 X E0:=fun _ _ _ _ _ _ _ h=>h.elim
structure Fun (K:PySem.W.Frag) (x qual:Str) (st:Stmt) (f:Addr) (fd:FuncData):Prop where
  ex:∃ (oc:Value) (od:Option Addr) (kV doc pm:Value) (an:Option Addr) (cdv ct:Value) (osl:Array (Option Value)),
    fd=PySem.W.fnOf x qual (defArgs st) (defBody st) (defScope st) .none kV doc pm an cdv ct/\K.lookup f=some ⟨oc,od,.func fd,osl⟩/\PySem.W.codeIn K cdv qual=true
  kp:PySem.W.keepIn K (.ref f)=true
section
variable {P:Program} {w:World} {K:PySem.W.Frag} {mg:Str->Option Value} {base:Heap}
theorem Fun.ok {x qual:Str} {st:Stmt} {f:Addr} {fd:FuncData} {N ps:List Str} {k:Nat} {sp:Sp} (F:Fun K x qual st f fd) (S:FnScope N ps (defScope st)) (len:∀ vs H Q E,sp vs H Q E->vs.length=ps.length)
    (hbody:∀ (cdv:Value) (A:Around) (outer:List Env) (s:Shared) (H:Hp) (vs:List V) (Q:VK) (E:XK),Room k (A.deeper (envOfC qual (defScope st) s.heap.objs.size f cdv))->sp vs H Q E ->
      ∃ t,PSs (cxOf CX0 P w K mg base N qual (defScope st) f cdv A outer s H E).nox (defBody st) t/\t { nx:=fun _ H'=>Q .non H',rt:=Q } (start N vs) H):FnOk P w K mg base CX0 (k+1) f fd ps sp:=by
  obtain⟨oc,od,kV,doc,pm,an,cdv,ct,osl,rfl,lk,hcd⟩:=F.ex
  refine fn_of lk hcd S len fun A outer s H vs Q E hr hsp=>?_
  obtain⟨t,h,q⟩:=hbody cdv A outer s H vs Q E hr hsp
  exact⟨t,h.nox,q⟩
theorem Fun.binds {x qual:Str} {st:Stmt} {f:Addr} {fd:FuncData} {ps:List Str} (F:Fun K x qual st f fd)
    (h:∀ (kV doc pm:Value) (an:Option Addr) (cdv ct:Value) (us:List Value),us.length=ps.length->bindArgs (PySem.W.fnOf x qual (defArgs st) (defBody st) (defScope st) .none kV doc pm an cdv ct) ⟨us,[]⟩=pure (ps.zip us)):Binds K fd ps []:=by
  obtain⟨oc,od,kV,doc,pm,an,cdv,ct,osl,rfl,lk,hcd⟩:=F.ex
  exact .all (h kV doc pm an cdv ct)
theorem fun_mk {x qual:Str} {st:Stmt} {f:Addr} {oc:Value} {od an:Option Addr} {osl:Array (Option Value)} {kV doc pm cdv ct:Value} (l:K.lookup f=some ⟨oc,od,.func (PySem.W.fnOf x qual (defArgs st) (defBody st) (defScope st) .none kV doc pm an cdv ct),osl⟩)
    (c:PySem.W.codeIn K cdv qual=true) (k:PySem.W.keepIn K (.ref f)=true):Fun K x qual st f (PySem.W.fnOf x qual (defArgs st) (defBody st) (defScope st) .none kV doc pm an cdv ct):=⟨⟨oc,od,kV,doc,pm,an,cdv,ct,osl,rfl,l,c⟩,k⟩
end
section
variable {X:Cx}
theorem pv (i:Nat) {x:Str} {pos:Pos} (hN:X.N[i]?=some x:=by rfl) (hv:Vis X.env.scope x:=by first | exact Or.inl rfl | exact Or.inr (Or.inl rfl) | exact Or.inr (Or.inr rfl)) (hd:(x == ("__debug__" : Str))=false:=by decide)
    (hcd:(x == ("__classdict__" : Str))=false:=by decide):PE X (.Name x pos) (tVar i):=pe_var hN hv hd hcd
end
theorem iteF {A B:Prop} (h:B):if false=true then A else B:=by
  rw[if_neg Bool.false_ne_true]
  exact h
theorem iteT {A B:Prop} (h:A):if true=true then A else B:=by
  rw[if_pos rfl]
  exact h
def Same (H H':Hp):Prop:=∀ b o,H b=some o->H' b=some o
theorem Same.refl (H:Hp):Same H H:=fun _ _ h=>h
theorem Same.trans {H H1 H2:Hp} (a:Same H H1) (b:Same H1 H2):Same H H2:=fun c o h=>b c o (a c o h)
theorem Same.free {H H':Hp} (e:Same H H') {l:Addr} (h:H' l=Option.none):H l=Option.none:=by
  cases q:H l with
  | none=>rfl
  | some o=>
    rw[e l o q] at h
    cases h
theorem Same.seq {K:PySem.W.Frag} {H H':Hp} {a:Addr} {xs:List V} (e:Same H H') (h:SqL K H a xs):SqL K H' a xs:=by
  rcases h with (h | ⟨o,h⟩) | h
  · exact .inl (.inl (e _ _ h))
  · exact .inl (.inr ⟨o,e _ _ h⟩)
  · exact .inr h
end L2
set_option maxHeartbeats 4000000
namespace L2
open PySem PySem.Spec PyProof.Rows
inductive Da where
  | fl (v:V)
  | tup (ds:List Da)
  | lst (ds:List Da)
mutual
def Isd (K:PySem.W.Frag) (H:Hp):Da->V->Prop
  | .fl x,v=>v=x/\flatV x=true
  | .tup ds,v=>∃ a xs,v=.ref a/\SqT K H a xs/\Isds K H ds xs
  | .lst ds,v=>∃ a xs,v=.ref a/\SqL K H a xs/\Isds K H ds xs
def Isds (K:PySem.W.Frag) (H:Hp):List Da->List V->Prop
  | [],xs=>xs=[]
  | d::ds,xs=>∃ v vs,xs=v::vs/\Isd K H d v/\Isds K H ds vs
end
mutual
noncomputable def eqD:Da->Da->Bool
  | .fl x,.fl y=>eqV x y
  | .tup a,.tup b=>eqDs a b
  | .lst a,.lst b=>eqDs a b
  | _,_=>false
noncomputable def eqDs:List Da->List Da->Bool
  | [],[]=>true
  | a::r,b::t=>eqD a b && eqDs r t
  | _,_=>false
end
mutual
noncomputable def depD:Da->Nat
  | .fl _=>0
  | .tup ds=>depDs ds+1
  | .lst ds=>depDs ds+1
noncomputable def depDs:List Da->Nat
  | []=>0
  | d::ds=>max (depD d) (depDs ds)
end
theorem Isds.len {K:PySem.W.Frag} {H:Hp}:∀ {ds:List Da} {xs:List V},Isds K H ds xs->ds.length=xs.length
  | [],xs,h=>by unfold Isds at h;subst h;rfl
  | d::ds,xs,h=>by
    unfold Isds at h
    obtain⟨v,vs,rfl,_,t⟩:=h
    rw[List.length_cons,List.length_cons,Isds.len t]
theorem Isds.get {K:PySem.W.Frag} {H:Hp}:∀ {ds:List Da} {xs:List V} {i:Nat} {d:Da} {v:V},Isds K H ds xs->ds[i]?=some d->xs[i]?=some v->Isd K H d v
  | [],_,_,_,_,_,e,_=>by simp at e
  | d::ds,xs,0,_,_,h,e,q=>by
    unfold Isds at h
    obtain⟨v,vs,rfl,hd,t⟩:=h
    simp at e q
    subst e q
    exact hd
  | d::ds,xs,i+1,_,_,h,e,q=>by
    unfold Isds at h
    obtain⟨v,vs,rfl,hd,t⟩:=h
    exact Isds.get t (by simpa using e) (by simpa using q)
theorem eqV_refl {x:V} (h:flatV x=true):eqV x x=true:=by
  cases x with
  | non=>rfl
  | bl b=>show (b == b)=true;simp
  | int i=>show (i == i)=true;simp
  | str z=>show (z == z)=true;simp
  | _=>exact absurd (show false=true from h) Bool.false_ne_true
section
variable {X:Cx} {pins:List (Addr × Obj)} {σ:St} {H:Hp} {s:Shared}
theorem Inv.lst_tup (I:Inv X pins σ H s) {a:Addr} {xs ys:List V} (h:SqL X.K H a xs) (h':SqT X.K H a ys):False:=by
  obtain⟨its,_,⟨o1,n1,e1,c1,_⟩,_⟩:=I.list h
  obtain⟨its2,_,⟨o,e2,c2,_⟩,_⟩:=I.tuple h'
  rw[e1] at e2
  cases e2
  rw[c1] at c2
  exact absurd (Value.type.inj c2) (by decide)
theorem Isd.flat_ref {K:PySem.W.Frag} {a:Addr} {x:V} (h:Isd K H (.fl x) (.ref a)):False:=by
  unfold Isd at h
  obtain⟨e,f⟩:=h
  subst e
  exact absurd (show false=true from f) Bool.false_ne_true
mutual
theorem Isd.inj (I:Inv X pins σ H s):∀ (d e:Da) {v:V},Isd X.K H d v->Isd X.K H e v->d=e
  | .fl x,.fl y,v,h,q=>by
    unfold Isd at h q
    rw[<- h.1,<- q.1]
  | .fl x,.tup ys,v,h,q=>by
    unfold Isd at q
    obtain⟨a,zs,e,_⟩:=q
    subst e
    exact h.flat_ref.elim
  | .fl x,.lst ys,v,h,q=>by
    unfold Isd at q
    obtain⟨a,zs,e,_⟩:=q
    subst e
    exact h.flat_ref.elim
  | .tup xs,.fl y,v,h,q=>by
    unfold Isd at h
    obtain⟨a,zs,e,_⟩:=h
    subst e
    exact q.flat_ref.elim
  | .lst xs,.fl y,v,h,q=>by
    unfold Isd at h
    obtain⟨a,zs,e,_⟩:=h
    subst e
    exact q.flat_ref.elim
  | .tup xs,.tup ys,v,h,q=>by
    unfold Isd at h q
    obtain⟨a,us,e,ha,hs⟩:=h
    obtain⟨b,ws,e',hb,qs⟩:=q
    subst e
    cases e'
    rw[I.tuple_inj ha hb] at hs
    rw[Isds.inj I xs ys hs qs]
  | .lst xs,.lst ys,v,h,q=>by
    unfold Isd at h q
    obtain⟨a,us,e,ha,hs⟩:=h
    obtain⟨b,ws,e',hb,qs⟩:=q
    subst e
    cases e'
    rw[I.list_inj ha hb] at hs
    rw[Isds.inj I xs ys hs qs]
  | .tup xs,.lst ys,v,h,q=>by
    unfold Isd at h q
    obtain⟨a,us,e,ha,hs⟩:=h
    obtain⟨b,ws,e',hb,qs⟩:=q
    subst e
    cases e'
    exact (I.lst_tup hb ha).elim
  | .lst xs,.tup ys,v,h,q=>by
    unfold Isd at h q
    obtain⟨a,us,e,ha,hs⟩:=h
    obtain⟨b,ws,e',hb,qs⟩:=q
    subst e
    cases e'
    exact (I.lst_tup ha hb).elim
theorem Isds.inj (I:Inv X pins σ H s):∀ (ds es:List Da) {vs:List V},Isds X.K H ds vs->Isds X.K H es vs->ds=es
  | [],[],_,_,_=>rfl
  | [],e::es,vs,h,q=>by
    unfold Isds at h q
    obtain⟨v,r,e1,_⟩:=q
    rw[h] at e1;cases e1
  | d::ds,[],vs,h,q=>by
    unfold Isds at h q
    obtain⟨v,r,e1,_⟩:=h
    rw[q] at e1;cases e1
  | d::ds,e::es,vs,h,q=>by
    unfold Isds at h q
    obtain⟨v,r,e1,h1,h2⟩:=h
    obtain⟨v',r',e2,q1,q2⟩:=q
    subst e1
    cases e2
    rw[Isd.inj I d e h1 q1,Isds.inj I ds es h2 q2]
end
mutual
theorem eqD_refl {K:PySem.W.Frag}:∀ (d:Da) {v:V},Isd K H d v->eqD d d=true
  | .fl x,v,h=>by
    unfold Isd at h
    unfold eqD
    exact eqV_refl h.2
  | .tup ds,v,h=>by
    unfold Isd at h
    obtain⟨_,_,_,_,hs⟩:=h
    unfold eqD
    exact eqDs_refl ds hs
  | .lst ds,v,h=>by
    unfold Isd at h
    obtain⟨_,_,_,_,hs⟩:=h
    unfold eqD
    exact eqDs_refl ds hs
theorem eqDs_refl {K:PySem.W.Frag}:∀ (ds:List Da) {vs:List V},Isds K H ds vs->eqDs ds ds=true
  | [],_,_=>by unfold eqDs;rfl
  | d::ds,vs,h=>by
    unfold Isds at h
    obtain⟨_,_,_,h1,h2⟩:=h
    unfold eqDs
    rw[eqD_refl d h1,eqDs_refl ds h2]
    rfl
end
theorem eqDs_all:∀ (ds es:List Da),ds.length=es.length->(List.range ds.length).all (fun j=>match ds[j]?,es[j]? with | some a,some b=>eqD a b | _,_=>false)=eqDs ds es
  | [],[],_=>by unfold eqDs;rfl
  | [],_::_,h=>by simp at h
  | _::_,[],h=>by simp at h
  | d::ds,e::es,h=>by
    have ih:=eqDs_all ds es (by simpa using h)
    unfold eqDs
    rw[<- ih,List.length_cons,List.range_succ_eq_map,List.all_cons,List.all_map]
    simp only[List.getElem?_cons_zero,Function.comp_def,List.getElem?_cons_succ]
theorem eqDs_len:∀ (ds es:List Da),ds.length ≠ es.length->eqDs ds es=false
  | [],[],h=>by simp at h
  | [],_::_,_=>by unfold eqDs;rfl
  | _::_,[],_=>by unfold eqDs;rfl
  | d::ds,e::es,h=>by
    unfold eqDs
    rw[eqDs_len ds es (by simpa using h),Bool.and_false]
theorem depD_mem:∀ {ds:List Da} {d:Da} {j:Nat},ds[j]?=some d->depD d <= depDs ds
  | [],_,_,h=>by simp at h
  | d::ds,_,0,h=>by
    simp at h
    subst h
    unfold depDs
    omega
  | d::ds,e,j+1,h=>by
    have:=depD_mem (ds:=ds) (d:=e) (j:=j) (by simpa using h)
    unfold depDs
    omega
noncomputable def atE (ds es:List Da) (j:Nat):Bool:=match ds[j]?,es[j]? with
  | some a,some b=>eqD a b
  | _,_=>false
theorem items_D {K:PySem.W.Frag} {n:Nat} {A:Around} (hE:∀ (d e:Da) (v x:V) (u w:Value),depD d <= n->Isd K H d v->Isd K H e x->RelV v u->RelV x w->SeqAt.EqAt A s u w (eqD d e)) {ds es:List Da} {xs ys:List V} {us ws:List Value} (hdp:depDs ds <= n)
    (h1:Isds K H ds xs) (h2:Isds K H es ys) (r1:Vals xs us) (r2:Vals ys ws) (j:Nat) (l1:j < us.toArray.size) (l2:j < ws.toArray.size):SeqAt.EqAt A s us.toArray[j] ws.toArray[j] (atE ds es j):=by
  have l1':j < us.length:=by simpa using l1
  have l2':j < ws.length:=by simpa using l2
  have q1:=h1.len
  have q2:=h2.len
  have q3:=r1.length
  have q4:=r2.length
  have a1:ds[j]?=some ds[j]:=List.getElem?_eq_getElem (by omega)
  have a2:es[j]?=some es[j]:=List.getElem?_eq_getElem (by omega)
  have a3:xs[j]?=some xs[j]:=List.getElem?_eq_getElem (by omega)
  have a4:ys[j]?=some ys[j]:=List.getElem?_eq_getElem (by omega)
  obtain⟨u1,b1,c1⟩:=r1.get a3
  obtain⟨w1,b2,c2⟩:=r2.get a4
  have e1:us.toArray[j]=u1:=by
    have:us[j]=u1:=by rw[List.getElem?_eq_getElem l1'] at b1;exact Option.some.inj b1
    simpa using this
  have e2:ws.toArray[j]=w1:=by
    have:ws[j]=w1:=by rw[List.getElem?_eq_getElem l2'] at b2;exact Option.some.inj b2
    simpa using this
  rw[e1,e2]
  unfold atE
  rw[a1,a2]
  exact hE ds[j] es[j] _ _ _ _ (Nat.le_trans (depD_mem a1) hdp) (h1.get a1 a3) (h2.get a2 a4) c1 c2
theorem eqAt_D (I:Inv X pins σ H s):∀ (n:Nat) (d e:Da) {A:Around} {v x:V} {u w:Value},depD d <= n->Isd X.K H d v->Isd X.K H e x->RelV v u->RelV x w->A.units+n < cLine->SeqAt.EqAt A s u w (eqD d e):=by
  intro n
  induction n with
  | zero=>
    intro d e A v x u w hn hd he ru rw' hu
    cases d with
    | tup ds=>unfold depD at hn;omega
    | lst ds=>unfold depD at hn;omega
    | fl y=>
      unfold Isd at hd
      obtain⟨rfl,fy⟩:=hd
      cases e with
      | fl z=>
        unfold Isd at he
        obtain⟨rfl,fz⟩:=he
        unfold eqD
        exact eqAt_V ru rw' fy fz
      | tup es=>
        unfold Isd at he
        obtain⟨a,xs,rfl,ha,_⟩:=he
        obtain⟨its,_,p,_⟩:=I.tuple ha
        cases rw'
        have p':s.heap.IsTuple a its.toArray:=p
        cases v with
        | non=>cases ru;exact SeqAt.EqAt.none_tuple p' (by omega)
        | bl b=>cases ru;exact SeqAt.EqAt.bool_tuple b p' (by omega)
        | int i=>obtain⟨t,rfl⟩:=ru;exact SeqAt.EqAt.int_tuple i t p' (by omega)
        | str z=>obtain⟨t,rfl⟩:=ru;exact SeqAt.EqAt.str_tuple z t p' (by omega)
        | _=>exact absurd (show false=true from fy) Bool.false_ne_true
      | lst es=>
        unfold Isd at he
        obtain⟨a,xs,rfl,ha,_⟩:=he
        obtain⟨its,_,p,_⟩:=I.list ha
        cases rw'
        have p':=p.isList
        cases v with
        | non=>cases ru;exact SeqAt.EqAt.none_list p' (by omega)
        | bl b=>cases ru;exact SeqAt.EqAt.bool_list b p' (by omega)
        | int i=>obtain⟨t,rfl⟩:=ru;exact SeqAt.EqAt.int_list i t p' (by omega)
        | str z=>obtain⟨t,rfl⟩:=ru;exact SeqAt.EqAt.str_list z t p' (by omega)
        | _=>exact absurd (show false=true from fy) Bool.false_ne_true
  | succ n ih=>
    intro d e A v x u w hn hd he ru rw' hu
    have items:∀ {ds es:List Da} {xs ys:List V} {us ws:List Value},depDs ds <= n->Isds X.K H ds xs->Isds X.K H es ys->Vals xs us->Vals ys ws ->
        ∀ j (h1:j < us.toArray.size) (h2:j < ws.toArray.size),SeqAt.EqAt A.in1 s us.toArray[j] ws.toArray[j] (atE ds es j):=
      items_D (n:=n) fun d e v x u w h1 h2 h3 h4 h5=>ih d e h1 h2 h3 h4 h5 (by show A.units+1+n < cLine;omega)
    cases d with
    | fl y=>
      exact ih (.fl y) e (by unfold depD;omega) hd he ru rw' (by omega)
    | tup ds=>
      cases e with
      | fl z=>
        unfold Isd at hd he
        obtain⟨a,xs,rfl,ha,_⟩:=hd
        obtain⟨rfl,fz⟩:=he
        obtain⟨its,_,p,_⟩:=I.tuple ha
        cases ru
        have p':s.heap.IsTuple a its.toArray:=p
        cases x with
        | non=>cases rw';exact SeqAt.EqAt.tuple_none p' (by omega)
        | bl b=>cases rw';exact SeqAt.EqAt.tuple_bool b p' (by omega)
        | int i=>obtain⟨t,rfl⟩:=rw';exact SeqAt.EqAt.tuple_int i t p' (by omega)
        | str z=>obtain⟨t,rfl⟩:=rw';exact SeqAt.EqAt.tuple_str z t p' (by omega)
        | _=>exact absurd (show false=true from fz) Bool.false_ne_true
      | tup es=>
        have hd0:=hd
        have he0:=he
        unfold Isd at hd he
        obtain⟨a,xs,rfl,ha,hs⟩:=hd
        obtain⟨b,ys,rfl,hb,qs⟩:=he
        cases ru
        cases rw'
        by_cases hab:a=b
        · subst hab
          rw[<- Isd.inj I (.tup ds) (.tup es) hd0 he0,eqD_refl _ hd0]
          exact SeqAt.EqAt.same _
        · obtain⟨us,r1,p1,_⟩:=I.tuple ha
          obtain⟨ws,r2,p2,_⟩:=I.tuple hb
          have hdp:depDs ds <= n:=by unfold depD at hn;omega
          have key:=SeqAt.RcAt.tuples (A:=A) (e:=atE ds es) (show s.heap.IsTuple a us.toArray from p1) (show s.heap.IsTuple b ws.toArray from p2) (by omega) (items hdp hs qs r1 r2)
          have ev:((List.range (min us.toArray.size ws.toArray.size)).all (atE ds es) && us.toArray.size == ws.toArray.size)=eqD (.tup ds) (.tup es):=by
            have q1:=hs.len
            have q2:=qs.len
            have q3:=r1.length
            have q4:=r2.length
            have z1:us.toArray.size=ds.length:=by simp;omega
            have z2:ws.toArray.size=es.length:=by simp;omega
            unfold eqD
            rw[z1,z2]
            by_cases hl:ds.length=es.length
            · rw[<- eqDs_all ds es hl,hl,Nat.min_self,beq_self_eq_true,Bool.and_true]
              rfl
            · rw[eqDs_len ds es hl,beq_eq_false_iff_ne.mpr hl,Bool.and_false]
          rw[ev] at key
          exact SeqAt.EqAt.of_refs hab key
      | lst es=>
        unfold Isd at hd he
        obtain⟨a,xs,rfl,ha,hs⟩:=hd
        obtain⟨b,ys,rfl,hb,qs⟩:=he
        cases ru
        cases rw'
        obtain⟨us,r1,p1,_⟩:=I.tuple ha
        obtain⟨ws,r2,p2,_⟩:=I.list hb
        unfold eqD
        exact SeqAt.EqAt.tuple_list (show s.heap.IsTuple a us.toArray from p1) p2.isList (by omega)
    | lst ds=>
      cases e with
      | fl z=>
        unfold Isd at hd he
        obtain⟨a,xs,rfl,ha,_⟩:=hd
        obtain⟨rfl,fz⟩:=he
        obtain⟨its,_,p,_⟩:=I.list ha
        cases ru
        have p':=p.isList
        cases x with
        | non=>cases rw';exact SeqAt.EqAt.list_none p' (by omega)
        | bl b=>cases rw';exact SeqAt.EqAt.list_bool b p' (by omega)
        | int i=>obtain⟨t,rfl⟩:=rw';exact SeqAt.EqAt.list_int i t p' (by omega)
        | str z=>obtain⟨t,rfl⟩:=rw';exact SeqAt.EqAt.list_str z t p' (by omega)
        | _=>exact absurd (show false=true from fz) Bool.false_ne_true
      | tup es=>
        unfold Isd at hd he
        obtain⟨a,xs,rfl,ha,hs⟩:=hd
        obtain⟨b,ys,rfl,hb,qs⟩:=he
        cases ru
        cases rw'
        obtain⟨us,r1,p1,_⟩:=I.list ha
        obtain⟨ws,r2,p2,_⟩:=I.tuple hb
        unfold eqD
        exact SeqAt.EqAt.list_tuple p1.isList (show s.heap.IsTuple b ws.toArray from p2) (by omega)
      | lst es=>
        have hd0:=hd
        have he0:=he
        unfold Isd at hd he
        obtain⟨a,xs,rfl,ha,hs⟩:=hd
        obtain⟨b,ys,rfl,hb,qs⟩:=he
        cases ru
        cases rw'
        by_cases hab:a=b
        · subst hab
          rw[<- Isd.inj I (.lst ds) (.lst es) hd0 he0,eqD_refl _ hd0]
          exact SeqAt.EqAt.same _
        · obtain⟨us,r1,p1,_⟩:=I.list ha
          obtain⟨ws,r2,p2,_⟩:=I.list hb
          have hdp:depDs ds <= n:=by unfold depD at hn;omega
          have q1:=hs.len
          have q2:=qs.len
          have q3:=r1.length
          have q4:=r2.length
          have z1:us.toArray.size=ds.length:=by simp;omega
          have z2:ws.toArray.size=es.length:=by simp;omega
          by_cases hl:ds.length=es.length
          · have key:=SeqAt.RcAt.lists (A:=A) (e:=atE ds es) p1.isList p2.isList (by rw[z1,z2];exact hl) (by omega) (items hdp hs qs r1 r2)
            have ev:(List.range us.toArray.size).all (atE ds es)=eqD (.lst ds) (.lst es):=by
              unfold eqD
              rw[z1,<- eqDs_all ds es hl]
              rfl
            rw[ev] at key
            exact SeqAt.EqAt.of_refs hab key
          · have key:=SeqAt.RcAt.lists_lengths (A:=A) p1.isList p2.isList (by rw[z1,z2];exact bne_iff_ne.mpr hl) (by omega)
            have ev:false=eqD (.lst ds) (.lst es):=by
              unfold eqD
              rw[eqDs_len ds es hl]
            rw[ev] at key
            exact SeqAt.EqAt.of_refs hab key
theorem all_T {ds es:List Da} {us ws:List Value} (q1:ds.length=us.length) (q2:es.length=ws.length):((List.range (min us.toArray.size ws.toArray.size)).all (atE ds es) && us.toArray.size == ws.toArray.size)=eqDs ds es:=by
  have z1:us.toArray.size=ds.length:=by simp;omega
  have z2:ws.toArray.size=es.length:=by simp;omega
  rw[z1,z2]
  by_cases hl:ds.length=es.length
  · rw[<- eqDs_all ds es hl,hl,Nat.min_self,beq_self_eq_true,Bool.and_true]
    rfl
  · rw[eqDs_len ds es hl,beq_eq_false_iff_ne.mpr hl,Bool.and_false]
noncomputable def rCmpD (K:PySem.W.Frag) (f:Bool->Bool):R2:=fun x y H Q=>∃ a b xs ys ds es,x=.ref a/\y=.ref b/\((SqT K H a xs/\SqT K H b ys)\/(SqL K H a xs/\SqL K H b ys))/\Isds K H ds xs/\Isds K H es ys/\depDs ds <= 50/\Q (.bl (f (eqDs ds es))) H
theorem op_eqD (hu:X.A.units+64 < cLine):OpR X (compareOp .Eq) (rCmpD X.K id):=by
  intro pins s σ H x y v u Q I rx ry h
  obtain⟨a,b,xs,ys,ds,es,rfl,rfl,hq,hs,qs,hd,q⟩:=h
  cases rx
  cases ry
  have items:=fun {us ws:List Value} (r1:Vals xs us) (r2:Vals ys ws)=>items_D (s:=s) (H:=H) (n:=50) (A:=X.A.in1) (fun d e v x u w h1 h2 h3 h4 h5=>eqAt_D I 50 d e h1 h2 h3 h4 h5 (by show X.A.units+1+50 < cLine;omega)) hd hs qs r1 r2
  rcases hq with ⟨ha,hb⟩ | ⟨ha,hb⟩
  · obtain⟨us,r1,p1,_⟩:=I.tuple ha
    obtain⟨ws,r2,p2,_⟩:=I.tuple hb
    refine SeqAt.eq_tupleAt (e:=atE ds es) (show s.heap.IsTuple a us.toArray from p1) (show s.heap.IsTuple b ws.toArray from p2) (by omega) (items r1 r2) ?_
    rw[all_T (hs.len.trans r1.length) (qs.len.trans r2.length)]
    exact⟨.bl _,H,I,rfl,q⟩
  · obtain⟨us,r1,p1,_⟩:=I.list ha
    obtain⟨ws,r2,p2,_⟩:=I.list hb
    have z1:us.toArray.size=ds.length:=by have q1:=hs.len;have q3:=r1.length;simp;omega
    have z2:ws.toArray.size=es.length:=by have q1:=qs.len;have q3:=r2.length;simp;omega
    by_cases hl:ds.length=es.length
    · refine SeqAt.eq_listAt (e:=atE ds es) p1.isList p2.isList (by rw[z1,z2];exact hl) (by omega) (items r1 r2) ?_
      have ev:(List.range us.toArray.size).all (atE ds es)=eqDs ds es:=by
        rw[z1,<- eqDs_all ds es hl]
        rfl
      rw[ev]
      exact⟨.bl _,H,I,rfl,q⟩
    · refine SeqAt.eq_list_lengthsAt p1.isList p2.isList (by rw[z1,z2];exact bne_iff_ne.mpr hl) (by omega) ?_
      have ev:false=eqDs ds es:=(eqDs_len ds es hl).symm
      rw[ev]
      exact⟨.bl _,H,I,rfl,q⟩
theorem op_neD (hu:X.A.units+64 < cLine):OpR X (compareOp .NotEq) (rCmpD X.K not):=by
  intro pins s σ H x y v u Q I rx ry h
  obtain⟨a,b,xs,ys,ds,es,rfl,rfl,hq,hs,qs,hd,q⟩:=h
  cases rx
  cases ry
  have items:=fun {us ws:List Value} (r1:Vals xs us) (r2:Vals ys ws)=>items_D (s:=s) (H:=H) (n:=50) (A:=X.A.in1) (fun d e v x u w h1 h2 h3 h4 h5=>eqAt_D I 50 d e h1 h2 h3 h4 h5 (by show X.A.units+1+50 < cLine;omega)) hd hs qs r1 r2
  rcases hq with ⟨ha,hb⟩ | ⟨ha,hb⟩
  · obtain⟨us,r1,p1,_⟩:=I.tuple ha
    obtain⟨ws,r2,p2,_⟩:=I.tuple hb
    refine SeqAt.RcNeAt.tuples (e:=atE ds es) (show s.heap.IsTuple a us.toArray from p1) (show s.heap.IsTuple b ws.toArray from p2) (by omega) (items r1 r2) _ _ _ _ ?_
    rw[all_T (hs.len.trans r1.length) (qs.len.trans r2.length)]
    exact⟨.bl _,H,I,rfl,q⟩
  · obtain⟨us,r1,p1,_⟩:=I.list ha
    obtain⟨ws,r2,p2,_⟩:=I.list hb
    have z1:us.toArray.size=ds.length:=by have q1:=hs.len;have q3:=r1.length;simp;omega
    have z2:ws.toArray.size=es.length:=by have q1:=qs.len;have q3:=r2.length;simp;omega
    by_cases hl:ds.length=es.length
    · refine SeqAt.RcNeAt.lists (e:=atE ds es) p1.isList p2.isList (by rw[z1,z2];exact hl) (by omega) (items r1 r2) _ _ _ _ ?_
      have ev:(List.range us.toArray.size).all (atE ds es)=eqDs ds es:=by
        rw[z1,<- eqDs_all ds es hl]
        rfl
      rw[ev]
      exact⟨.bl _,H,I,rfl,q⟩
    · refine SeqAt.RcNeAt.lists_lengths p1.isList p2.isList (by rw[z1,z2];exact bne_iff_ne.mpr hl) (by omega) _ _ _ _ ?_
      have ev:true=!eqDs ds es:=by rw[eqDs_len ds es hl];rfl
      rw[ev]
      exact⟨.bl _,H,I,rfl,q⟩
end
end L2
namespace L2
open PySem PySem.Spec PyProof.Rows
theorem clos_loop (env:Env):∀ (names:List (Str × NameKind)) (cs:List (Str × Addr)),(∀ x,(x,NameKind.free) ∈ names->∃ c,env.cells.lookup x=some c) ->
    (∀ x c,cs.lookup x=some c->env.cells.lookup x=some c) ->
    ∃ cl:List (Str × Addr),(forIn names cs fun (x:Str × NameKind) (r:List (Str × Addr))=>if (x.snd == NameKind.free)=true then do let a <- cellOf env x.fst;pure (ForInStep.yield ((x.fst,a)::r)) else (pure (ForInStep.yield r):Sem _))=(pure cl:Sem _) /\
      (∀ x c,cl.lookup x=some c->env.cells.lookup x=some c)/\∀ x,((x,NameKind.free) ∈ names\/∃ c,cs.lookup x=some c)->∃ c,cl.lookup x=some c
  | [],cs,_,h2=>⟨cs,rfl,h2,fun x hx=>hx.elim (fun z=>nomatch z) fun z=>z⟩
  | (n,k)::r,cs,h1,h2=>by
    cases hk:(k == NameKind.free) with
    | true=>
      have ek:k=.free:=by simpa using hk
      subst ek
      obtain⟨c,hc⟩:=h1 n List.mem_cons_self
      obtain⟨cl,e,a,b⟩:=clos_loop env r ((n,c)::cs) (fun x hx=>h1 x (List.mem_cons_of_mem _ hx)) (fun x d hd=>by
        rw[List.lookup_cons] at hd
        cases hx:x == n with
        | true=>
          rw[hx] at hd
          have:x=n:=by simpa using hx
          subst this
          cases hd
          exact hc
        | false=>rw[hx] at hd;exact h2 x d hd)
      refine⟨cl,?_,a,fun x hx=>b x ?_⟩
      · rw[<- e,List.forIn_cons]
        have hcell:cellOf env n=pure c:=by unfold cellOf;rw[hc]
        simp only[hk,if_true]
        rw[hcell]
        rfl
      · rcases hx with hx | ⟨d,hd⟩
        · rcases List.mem_cons.mp hx with q | q
          · cases q
            exact .inr ⟨c,by rw[List.lookup_cons];simp⟩
          · exact .inl q
        · refine .inr ?_
          rw[List.lookup_cons]
          cases hx:x == n with
          | true=>exact⟨c,rfl⟩
          | false=>exact⟨d,hd⟩
    | false=>
      obtain⟨cl,e,a,b⟩:=clos_loop env r cs (fun x hx=>h1 x (List.mem_cons_of_mem _ hx)) h2
      refine⟨cl,?_,a,fun x hx=>b x ?_⟩
      · rw[<- e,List.forIn_cons]
        simp only[hk,Bool.false_eq_true,if_false]
        rfl
      · rcases hx with hx | hx
        · rcases List.mem_cons.mp hx with q | q
          · cases q
            simp at hk
          · exact .inl q
        · exact .inr hx
theorem clos_ok {scope:Scope} {env:Env} (h1:∀ x,(x,NameKind.free) ∈ scope.names->∃ c,env.cells.lookup x=some c) :
    ∃ cl:List (Str × Addr),closureFor scope env=pure cl/\(∀ x c,cl.lookup x=some c->env.cells.lookup x=some c)/\∀ x,(x,NameKind.free) ∈ scope.names->∃ c,cl.lookup x=some c:=by
  obtain⟨cl,e,a,b⟩:=clos_loop env scope.names [] h1 (fun x c h=>by simp at h)
  refine⟨cl,?_,a,fun x hx=>b x (.inl hx)⟩
  simp only[closureFor]
  rw[e]
  rfl
noncomputable def Cx.comp (X:Cx) (sc:Scope) (cl:List (Str × Addr)) (C:Addr) (N:List Str) (s:Shared) (H:Hp) (fp:List Addr):Cx:=
  { X with N:=N,s₀:=s,H₀:=H,env:=compEnvC sc cl C X.env,outer:=X.stack,ex:=fp,fn:=fun _=>false,pn:=[],xe:=fun _ _=>False }
noncomputable def compChk (N:List Str) (osc sc:Scope) (t:Str) (ys:List Str) (js:List Nat):Bool:=
  sc.kind == .function && sc.names.all (fun y=>y.2 != .cell) && sc.names.all (fun y=>y.2 != .local || sc.names.lookup y.1 == some .local) &&
  sc.names.all (fun y=>y.2 != .free || osc.names.lookup y.1 == some .cell) && (ys.map some == js.map fun j=>N[j]?) &&
  ys.all (fun y=>sc.names.lookup y == some .free) && sc.names.lookup t == some .local && decide ((t::ys).Nodup)
structure CompOk (N:List Str) (osc sc:Scope) (t:Str) (ys:List Str) (js:List Nat):Prop where
  kind:sc.kind=.function
  ncell:∀ y ∈ sc.names,y.2 ≠ .cell
  loc:∀ y ∈ sc.names,y.2=.local->sc.names.lookup y.1=some .local
  fre:∀ y ∈ sc.names,y.2=.free->osc.names.lookup y.1=some .cell
  ysj:ys.map some=js.map fun j=>N[j]?
  ysf:∀ y ∈ ys,sc.names.lookup y=some .free
  tl:sc.names.lookup t=some .local
  nd:(t::ys).Nodup
theorem compOk_of {N:List Str} {osc sc:Scope} {t:Str} {ys:List Str} {js:List Nat} (h:compChk N osc sc t ys js=true):CompOk N osc sc t ys js:=by
  unfold compChk at h
  simp only[Bool.and_eq_true,List.all_eq_true,decide_eq_true_eq,Bool.or_eq_true,bne_iff_ne,beq_iff_eq] at h
  obtain⟨⟨⟨⟨⟨⟨⟨a,b⟩,c⟩,d⟩,e⟩,f⟩,g⟩,i⟩:=h
  exact⟨a,fun y hy=>b y hy,fun y hy z=>(c y hy).resolve_left fun q=>q z,fun y hy z=>(d y hy).resolve_left fun q=>q z,e,f,g,i⟩
noncomputable def compS (js:List Nat) (σ:St):St:=js.map fun j=>(σ[j]?).join
theorem relabel_inv {env:Env} {x:Str}:∀ {names:List (Str × NameKind)} {k:NameKind},(names.map fun (n,k)=>if (k == NameKind.free && env.scope.kind == .function && env.kindOf n == some .cell) then (n,NameKind.cell) else (n,k)).lookup x=some k ->
    names.lookup x=some k\/(k=.cell/\names.lookup x=some .free)
  | [],_,h=>by simp at h
  | (n,q)::r,k,h=>by
    have ih:=@relabel_inv env x r k
    have h':List.lookup x ((if (q == NameKind.free && env.scope.kind == .function && env.kindOf n == some .cell)=true then (n,NameKind.cell) else (n,q))::_)=some k:=h
    cases hx:x == n with
    | true=>
      by_cases hc:(q == NameKind.free && env.scope.kind == .function && env.kindOf n == some .cell)=true
      · rw[if_pos hc] at h'
        simp only[List.lookup_cons,hx] at h' ⊢
        have eq:q=.free:=by simp only[Bool.and_eq_true,beq_iff_eq] at hc;exact hc.1.1
        cases h'
        exact .inr ⟨rfl,by rw[eq]⟩
      · rw[if_neg hc] at h'
        simp only[List.lookup_cons,hx] at h' ⊢
        exact .inl h'
    | false=>
      by_cases hc:(q == NameKind.free && env.scope.kind == .function && env.kindOf n == some .cell)=true
      · rw[if_pos hc] at h'
        simp only[List.lookup_cons,hx] at h' ⊢
        exact ih h'
      · rw[if_neg hc] at h'
        simp only[List.lookup_cons,hx] at h' ⊢
        exact ih h'
theorem relabel_free {env:Env} {x:Str}:∀ {names:List (Str × NameKind)},names.lookup x=some .free ->
    (names.map fun (n,k)=>if (k == NameKind.free && env.scope.kind == .function && env.kindOf n == some .cell) then (n,NameKind.cell) else (n,k)).lookup x=some .cell \/
    (names.map fun (n,k)=>if (k == NameKind.free && env.scope.kind == .function && env.kindOf n == some .cell) then (n,NameKind.cell) else (n,k)).lookup x=some .free
  | [],h=>by simp at h
  | (n,q)::r,h=>by
    have ih:=@relabel_free env x r
    show List.lookup x ((if (q == NameKind.free && env.scope.kind == .function && env.kindOf n == some .cell)=true then (n,NameKind.cell) else (n,q))::_)=some .cell\/List.lookup x ((if (q == NameKind.free && env.scope.kind == .function && env.kindOf n == some .cell)=true then (n,NameKind.cell) else (n,q))::_)=some .free
    cases hx:x == n with
    | true=>
      simp only[List.lookup_cons,hx] at h
      cases h
      by_cases hc:(NameKind.free == NameKind.free && env.scope.kind == .function && env.kindOf n == some .cell)=true
      · rw[if_pos hc];exact .inl (by simp only[List.lookup_cons,hx])
      · rw[if_neg hc];exact .inr (by simp only[List.lookup_cons,hx])
    | false=>
      simp only[List.lookup_cons,hx] at h
      by_cases hc:(q == NameKind.free && env.scope.kind == .function && env.kindOf n == some .cell)=true
      · rw[if_pos hc];simp only[List.lookup_cons,hx];exact ih h
      · rw[if_neg hc];simp only[List.lookup_cons,hx];exact ih h
def PIf (X:Cx) (ifs:List Expr) (t:TT):Prop:=
  ∀ (pins:List (Addr × Obj)) (s:Shared) (σ:St) (H:Hp) (Q:Bool->Hp->Prop),Inv X pins σ H s->t σ H Q ->
    wpAny (model X.prog X.w) X.A (forIn ifs true fun c r=>if r=true then do let ok <- isTrue c X.env (eval c X.env);pure (ForInStep.yield ok) else pure (ForInStep.yield r)) (TP X pins σ Q) X.xe s
def tYes:TT:=fun _ H Q=>Q true H
theorem pif_nil {X:Cx}:PIf X [] tYes:=fun _ _ _ H _ I h=>wpAny_tests_nil ⟨H,I,h⟩
theorem pif_one {X:Cx} {c:Expr} {t:TT} (h:PT X c t):PIf X [c] t:=fun pins s σ H Q I q=>wpAny_tests_one (h pins s σ H Q I q)
theorem comp_turns {prog:Program} {w:World} {A:Around} {R:Result->Shared->Prop} {s:Shared} {elt target iter:Expr} {ifs:List Expr} {scope:Scope} {pos:Pos} {it acc:Value} {env:Env} (J:Nat->Shared->Prop)
    (turn:∀ n s0,J n s0->wpAny (model prog w) A (pyNext it) (fun r s1=>match r with
      | none=>R (.ok .next) s1
      | some v=>wpAny (model prog w) A (letOwnedTupleGo target it v) (fun _ s2=>wpAny (model prog w) A (assign target env v) (fun _ s3=>
          wpAny (model prog w) A (forIn ifs true fun c r=>if r=true then do let ok <- isTrue c env (eval c env);pure (ForInStep.yield ok) else pure (ForInStep.yield r)) (fun ok s4=>
            if ok=true then wpAny (model prog w) A (eval elt env) (fun x s5=>
              wpAny (model prog w) A (call (.builtin "list.append") [acc,x]) (fun _ s6=>∃ m,m < n/\J m s6) (fun _ _=>False) s5) (fun _ _=>False) s4
            else ∃ m,m < n/\J m s4) (fun _ _=>False) s3) (fun _ _=>False) s2) (fun _ _=>False) s1) (fun _ _=>False) s0)
    (n:Nat) (h:J n s):codeAny (model prog w) A (.compLoop (.ListComp elt [⟨target,iter,ifs,0⟩] scope pos) 0 it acc env) R s:=by
  have up:∀ {α:Type} {t:Sem α} {Q Q':α->Shared->Prop} {E:Value->Shared->Prop} {s0:Shared},wpAny (model prog w) A t Q (fun _ _=>False) s0->(∀ a s',Q a s'->Q' a s')->wpAny (model prog w) A t Q' E s0:=
    fun h0 hq=>wpAny_mono h0 hq fun _ _ z=>z.elim
  refine codeAny_loop rfl J ?_ n h
  intro k s0 hJ
  show wpAny _ A ((compTurn (.ListComp elt [⟨target,iter,ifs,0⟩] scope pos) 0 it acc env).onRaise (fun x=>do noteFrame x env;theTreesLotGoes x)) _ _ s0
  refine wpAny_noted ?_
  rw[compTurn_list]
  refine wpAny_bind (wpAny_standAt (wpAny_bind (up (turn k s0 hJ) fun r s1 h1=>?_)))
  cases r with
  | none=>exact wpAny_pure h1
  | some v=>
    refine wpAny_bind (up h1 fun _ s2 h2=>wpAny_bind (up h2 fun _ s3 h3=>wpAny_bind (up h3 fun ok s4 h4=>?_)))
    cases ok with
    | false=>exact wpAny_pure ⟨rfl,h4⟩
    | true=>exact wpAny_bind (wpAny_bind (up h4 fun x s5 h5=>wpAny_bind (up h5 fun _ s6 h6=>wpAny_pure (wpAny_pure ⟨rfl,h6⟩))))
def CompW (J:It) (js:List Nat) (tc:TT) (te:TE) (σ:St) (Q:VK) (D:Addr) (H1:Hp):Prop:=∃ W:Nat->Nat->List V->Hp->Prop,(∃ m,W 0 m [] (upd H1 D (.lst []))) /\
  ∀ i m acc H,W i m acc H->H D=some (.lst acc)/\acc.length < sizeLine/\((J.stop i H/\Q (.ref D) H)\/(J.go i H/\∀ x H',J.yld i H x H'->tc (some x::compS js σ) H' fun c H3=>
    if c=true then te (some x::compS js σ) H3 fun y H4=>H4 D=some (.lst acc)/\∃ m',m' < m/\W (i+1) m' (acc++[y]) (upd H4 D (.lst (acc++[y]))) else ∃ m',m' < m/\W (i+1) m' acc H3))
def tComp (wi:TI) (js:List Nat) (tc:TT) (te:TE):TE:=fun σ H Q=>wi σ H fun J H1=>∀ D,H1 D=none->CompW J js tc te σ Q D H1
theorem pe_comp {X:Cx} {elt iter:Expr} {ifs:List Expr} {sc:Scope} {pos px:Pos} {t:Str} {ys:List Str} {js:List Nat} {wi:TI} {tc:TT} {te:TE} (hc:X.calm=true) (hck:compChk X.N X.env.scope sc t ys js=true)
    (hi:PI X (.Name t px) iter wi) (hf:∀ cl C s H fp,PIf (X.comp sc cl C (t::ys) s H fp) ifs tc) (he:∀ cl C s H fp,PE (X.comp sc cl C (t::ys) s H fp) elt te)
    (hs:∀ x,foldedSetIterable iter X.env x=pure x:=by intro _;rfl):PE X (.ListComp elt [⟨.Name t px,iter,ifs,0⟩] sc pos) (tComp wi js tc te):=by
  have ck:=compOk_of hck
  intro pins s σ H Q I h
  have hfr:∀ x,(x,NameKind.free) ∈ sc.names->∃ c,X.env.cells.lookup x=some c:=fun x hx=>I.ok.has x (.inl (ck.fre _ hx rfl))
  obtain⟨cl,hcl,cl1,cl2⟩:=clos_ok hfr
  rw[eval_ListComp]
  refine wpAny_comprehension_free (use:=none) rfl hs hcl ck.kind ck.loc (thn (hi pins s σ H _ I h) fun v s1 h1=>thn h1 fun itv s2 h2=>?_)
  obtain⟨it,fp,tn,J,H2,e,I2,T,st2,f2,hR⟩:=h2
  subst e
  refine wpAny_newObj_type (wpAny_newFunctionEnv ck.ncell (by intro y hy;simp at hy) (fun h1 hns hsb=>?_) ck.kind)
  dsimp only at hns hsb ⊢
  generalize hp:s2.heap.push { cls:=.type "list",dict:=none,data:=.seq ([]:List Value).toArray }=hh at hns hsb ⊢
  have hC:hh.objs.size=s2.heap.objs.size+1:=by rw[<- hp,Heap.size_push]
  have neD:∀ {b:Addr},b < s2.heap.objs.size->b ≠ s2.heap.objs.size:=fun hb=>Nat.ne_of_lt hb
  have neC:∀ {b:Addr},b < s2.heap.objs.size->b ≠ hh.objs.size:=fun hb=>by rw[hC];exact Nat.ne_of_lt (Nat.lt_succ_of_lt hb)
  have hDC:s2.heap.objs.size ≠ hh.objs.size:=by rw[hC];exact Nat.ne_of_lt (Nat.lt_succ_self _)
  have hCle:s2.heap.objs.size <= hh.objs.size:=by rw[hC];exact Nat.le_succ _
  have old:∀ b o,s2.heap.get? b=some o->h1.get? b=some o:=fun b o e=>hsb.extBut b o (neC (Heap.lt_size e)) (Heap.get?_push_of_some _ (hp ▸ Heap.get?_push_of_some _ e))
  have hnew:h1.get? s2.heap.objs.size=some { cls:=.type "list",dict:=none,data:=.seq ([]:List Value).toArray }:=hsb.extBut _ _ hDC (Heap.get?_push_of_some _ (hp ▸ Heap.get?_push_size _ rfl))
  have fpH:∀ b ∈ fp,∃ o,s2.heap.get? b=some o:=fun b hb=>let ⟨o,e,_⟩:=T.obj 0 _ st2 b hb;⟨o,e⟩
  have fpD:∀ b ∈ fp,b ≠ s2.heap.objs.size:=fun b hb=>by obtain⟨o,e⟩:=fpH b hb;exact neD (Heap.lt_size e)
  have fpC:∀ b ∈ fp,b ≠ hh.objs.size:=fun b hb=>by obtain⟨o,e⟩:=fpH b hb;exact neC (Heap.lt_size e)
  have fpS:∀ b ∈ fp,b ∉ frs X.stack:=fun b hb z=>(List.mem_cons.mp (I2.stkSub b z)).elim (f2 b hb).2.1 (f2 b hb).2.2.1
  have hok':(X.comp sc cl hh.objs.size (t::ys) s2 H2 fp).Ok:=by
    refine⟨I2.ok.mod,ck.kind,I2.ok.glob,I2.ok.blt,hCle,fun x y c a b=>I2.ok.inj x y c (cl1 x c a) (cl1 y c b),fun x hx=>?_,(fun x c z=>nomatch z),I2.ok.hd,I2.ok.frames,.inl rfl,fun b hb=>⟨fpC b hb,fun x c a=>(f2 b hb).2.2.2.2.1 x c (cl1 x c a)⟩,
      I2.bs,Nat.le_trans I2.ok.bsz I2.sz,fun b o e hb=>?_,fun b hb=>fpS b hb,I2.stack,I2.stkFree⟩
    · have hx':(sc.names.map fun (n,k)=>if (k == NameKind.free && X.env.scope.kind == .function && X.env.kindOf n == some .cell) then (n,NameKind.cell) else (n,k)).lookup x=some .cell\/(sc.names.map fun (n,k)=>if (k == NameKind.free && X.env.scope.kind == .function && X.env.kindOf n == some .cell) then (n,NameKind.cell) else (n,k)).lookup x=some .free:=hx
      rcases hx' with z | z
      · rcases relabel_inv z with q | ⟨_,q⟩
        · exact absurd rfl (ck.ncell _ (PySem.mem_of_lookup q))
        · exact cl2 x (PySem.mem_of_lookup q)
      · rcases relabel_inv z with q | ⟨q,_⟩
        · exact cl2 x (PySem.mem_of_lookup q)
        · cases q
    · rcases (f2 b hb).2.2.2.1 with z | z
      · exact I2.ok.noex b o e z
      · exact absurd (Nat.lt_of_lt_of_le (Heap.lt_size e) (Nat.le_trans I2.ok.bsz z)) (Nat.lt_irrefl _)
  have Iin:∀ tk:Nat,Inv (X.comp sc cl hh.objs.size (t::ys) s2 H2 fp) [] (none::compS js σ) (upd H2 s2.heap.objs.size (.lst [])) { s2 with heap:=h1,toks:=tk }:=fun tk=>by
    refine⟨hok',rfl,I2.bare,Un.laid old (Nat.le_refl _) I2.fresh,⟨_,hns,fun i x v e1 e2 e3=>?_⟩,fun x c e=>?_,?_,fun x c e=>?_,fun p hp=>absurd (show p ∈ ([]:List (Addr × Obj)) from hp) (by simp),I2.hok.laid old (Nat.le_refl _) ⟨Nat.zero_le _,[],0,.nil,hnew⟩,?_⟩
    · cases i with
      | zero=>simp at e2
      | succ k=>
        have e1':ys[k]?=some x:=e1
        have e2':(compS js σ)[k]?=some (some v):=by simpa using e2
        unfold compS at e2'
        rw[List.getElem?_map] at e2'
        have q:=congrArg (fun l=>l[k]?) ck.ysj
        simp only[List.getElem?_map,e1',Option.map_some] at q
        cases hj:js[k]? with
        | none=>rw[hj] at q;cases q
        | some j=>
          rw[hj] at q e2'
          have q1:X.N[j]?=some x:=(Option.some.inj q).symm
          have q2:σ[j]?=some (some v):=by
            have z:(σ[j]?).join=some v:=Option.some.inj e2'
            cases hz:σ[j]? with
            | none=>rw[hz] at z;cases z
            | some y=>rw[hz] at z;exact congrArg some z
          have hf':=ck.ysf x (List.mem_of_getElem? e1')
          have hcell:=ck.fre _ (PySem.mem_of_lookup hf') rfl
          obtain⟨m2,hn2,hl2⟩:=I2.loc
          obtain⟨u,ru,lk⟩:=hl2 j x v q1 q2 (.inr (.inl hcell))
          refine⟨u,ru,?_⟩
          rcases lk with ⟨kk,_⟩ | ⟨_,c,ec,ic⟩
          · have kk':X.env.scope.names.lookup x=some .local:=kk
            have hcell':X.env.scope.names.lookup x=some .cell:=hcell
            rw[hcell'] at kk';cases kk'
          · obtain⟨c',ec'⟩:=cl2 x (PySem.mem_of_lookup hf')
            have:c'=c:=Option.some.inj ((cl1 x c' ec').symm.trans ec)
            subst this
            refine .inr ⟨relabel_free hf',c',ec',?_⟩
            obtain⟨o,ho,hd⟩:=ic
            exact⟨o,old _ o ho,hd⟩
    · obtain⟨v,o,ho,hd⟩:=I2.cell x c (cl1 x c e)
      exact⟨v,o,old _ o ho,hd⟩
    · show upd H2 s2.heap.objs.size _ hh.objs.size=none
      rw[upd_ne (Ne.symm hDC)]
      exact I2.hok.fresh hCle
    · obtain⟨v,o,ho,hd⟩:=I2.cell x c (cl1 x c e)
      rw[upd_ne (neD (Heap.lt_size ho))]
      exact I2.freeC x c (cl1 x c e)
    · show (none::compS js σ).length=(t::ys).length
      have q:=congrArg List.length ck.ysj
      simp only[List.length_map] at q
      unfold compS
      simp only[List.length_cons,List.length_map]
      omega
  have st1:tn 0 h1:=T.keep _ _ _ st2 fun b hb o e=>old b o e
  obtain⟨W,⟨m0,w0⟩,turn⟩:=hR s2.heap.objs.size I2.fresh
  have fpok:∀ {H':Hp},(∀ b ∈ fp,H' b=none)->∀ b ∈ fp,FpOk (X.comp sc cl hh.objs.size (t::ys) s2 H2 fp) [] H' b:=fun hn b hb=>
    ⟨hn b hb,fpC b hb,fpS b hb,.inl hb,fun x c a=>(f2 b hb).2.2.2.2.1 x c (cl1 x c a),fun p hp=>absurd (show p ∈ ([]:List (Addr × Obj)) from hp) (by simp)⟩
  have ndN:(t::ys).Nodup:=ck.nd
  have loop:∀ s3:Shared,s3={ s2 with heap:=h1,toks:=s2.toks+([]:List (Str × Value)).length } ->
      codeAny (model X.prog X.w) X.A (.compLoop (.ListComp elt [⟨.Name t px,iter,ifs,0⟩] sc pos) 0 (.ref it) (.ref s2.heap.objs.size) (compEnvC sc cl hh.objs.size X.env))
        (compPost (model X.prog X.w) X.A X.xe none (EP X pins σ Q) (.ref s2.heap.objs.size) hh.objs.size) s3:=by
    rintro s3 rfl
    refine comp_turns (fun n s'=>∃ i acc H',Inv (X.comp sc cl hh.objs.size (t::ys) s2 H2 fp) [] (none::compS js σ) H' s'/\tn i s'.heap/\(∀ b ∈ fp,H' b=none)/\W i n acc H') ?_ m0
      ⟨0,[],_,Iin _,st1,fun b hb=>by rw[upd_ne (fpD b hb)];exact (f2 b hb).1,w0⟩
    rintro n s3 ⟨i,acc,H3,I3,st3,fr3,w3⟩
    obtain⟨hD,hz,alt⟩:=turn i n acc H3 w3
    rcases alt with ⟨stop,q⟩ | ⟨go,step⟩
    · refine thn (T.done (X.comp sc cl hh.objs.size (t::ys) s2 H2 fp) rfl rfl rfl hc i [] s3 _ H3 _ I3 (fpok fr3) st3 stop) fun r s4 ⟨hr,I4⟩=>?_
      subst hr
      obtain⟨m,hn,_⟩:=id I4.loc
      refine⟨m,hn,fun h' sb=>⟨.ref s2.heap.objs.size,H3,?_,rfl,q⟩⟩
      have ltC:∀ b o,s2.heap.get? b=some o->b ≠ hh.objs.size:=fun b o e=>neC (Heap.lt_size e)
      have b4:Un (frs X.stack) fp H2 H3 s2.heap s4.heap:=I4.base
      refine I2.call' (s':={ s4 with heap:=h' }) (ch:=fp) I4.os ⟨fun b o e n1 n2 n3=>(sb.2 b (ltC b o e)).trans (b4.keep b o e n1 n2 n3),fun b o e n1 n2 n3=>?_,b4.free,fun b o e n1=>?_,b4.tups,b4.frzs,b4.tbls⟩ (fun b ob e=>?_) I4.bare
        (fun b hb=>⟨(f2 b hb).2.2.2.1,(f2 b hb).2.1,(f2 b hb).2.2.2.2.1,(f2 b hb).2.2.2.2.2⟩)
      · obtain⟨sl,e1⟩:=b4.slot b o e n1 n2 n3
        exact⟨sl,(sb.2 b (ltC b o e)).trans e1⟩
      · obtain⟨o',e1⟩:=b4.there b o e n1
        exact⟨o',(sb.2 b (ltC b o e)).trans e1⟩
      · have hfree:H3 hh.objs.size=none:=I4.free
        refine (I4.hok b ob e).stay (fun c w' hc' q'=>(sb.2 c ?_).trans q') (fun _ q'=>q') fun _ _ q'=>q'
        rintro rfl
        rcases hc' with rfl | hc'
        · rw[hfree] at e;cases e
        · rw[hfree] at hc';cases hc'
    · refine thn (T.item (X.comp sc cl hh.objs.size (t::ys) s2 H2 fp) rfl rfl rfl hc i [] s3 _ H3 _ I3 (fpok fr3) st3 go) fun r s4 ⟨u,hr,h4⟩=>?_
      subst hr
      refine thn h4 fun _ s5 ⟨x,H5,I5,r5,y5,st5,fr5⟩=>?_
      have I5':=I5.pinned (fpok fr5) (T.obj _ _ st5)
      refine wpAny_assign_Name (store_ok (i:=0) I5' ndN rfl (.inl (lookup_relabel_local ck.tl)) r5 (fun s6 I6=>?_) (.inr (lookup_relabel_local ck.tl)))
      have again:∀ {H7:Hp} {s7:Shared} {m':Nat} {acc':List V},Inv (X.comp sc cl hh.objs.size (t::ys) s2 H2 fp) ([]++pinsAt fp s5.heap) (some x::compS js σ) H7 s7->m' < n->W (i+1) m' acc' H7 ->
          ∃ m,m < n/\∃ i acc H',Inv (X.comp sc cl hh.objs.size (t::ys) s2 H2 fp) [] (none::compS js σ) H' s7/\tn i s7.heap/\(∀ b ∈ fp,H' b=none)/\W i m acc H':=fun {H7 s7 m' acc'} I7 hm w7=>by
        refine⟨m',hm,i+1,acc',H7,(I7.unpinned).weak rfl (fun k v e=>?_),T.keep _ _ _ st5 fun b hb o e=>(I7.pin (b,o) (List.mem_append_right _ (List.mem_append_right _ (mem_pinsAt hb e)))).1,fun b hb=>?_,w7⟩
        · cases k with
          | zero=>simp at e
          | succ k=>simpa using e
        · obtain⟨o,e,d⟩:=T.obj _ _ st5 b hb
          exact (I7.pin (b,o) (List.mem_append_right _ (List.mem_append_right _ (mem_pinsAt hb e)))).2.1
      refine thn (hf _ _ _ _ _ _ s6 _ H5 _ I6 (step x H5 y5)) fun ok s7 ⟨H7,I7,q7⟩=>?_
      cases ok with
      | false=>
        obtain⟨m',hm,w7⟩:=q7
        exact again I7 hm w7
      | true=>
        refine thn (he _ _ _ _ _ _ s7 _ H7 _ I7 q7) fun uy s8 ⟨y,H8,I8,r8,hD8,m',hm,w8⟩=>?_
        refine thn (mt_append (X:=X.comp sc cl hh.objs.size (t::ys) s2 H2 fp) _ s8 _ H8 (.ref s2.heap.objs.size) [y] (.ref s2.heap.objs.size) [uy] (fun _ H9=>W (i+1) m' (acc++[y]) H9) I8 rfl (.cons r8 .nil) ⟨_,acc,y,rfl,rfl,hD8,hz,w8⟩) fun _ s9 ⟨_,H9,I9,_,q9⟩=>?_
        exact again I9 hm q9
  exact codeAny_compStart_list (loop _ rfl) (T.self _ 0 _ _ _ st1 (loop _ rfl))
theorem cstep {n i m:Nat} {A B:Prop} (hi:i < n) (hm:m=n - i) (a:A) (b:B):A/\∃ m',m' < m/\(m'=n - (i+1)/\i+1 <= n/\B):=⟨a,n - (i+1),by omega,rfl,hi,b⟩
theorem comp_rng {lo:Int} {n:Nat} {js:List Nat} {te:TE} {σ:St} {Q:VK} {D:Addr} {H1:Hp} (Pv:Nat->List V->Hp->Prop) (hz:n < sizeLine) (h0:Pv 0 [] (upd H1 D (.lst [])))
    (hl:∀ i acc H,Pv i acc H->H D=some (.lst acc)/\acc.length=i)
    (hs:∀ i m acc H,i < n->Pv i acc H->m=n - i->te (some (.int (lo+i))::compS js σ) H fun y H4=>H4 D=some (.lst acc)/\∃ m',m' < m/\(m'=n - (i+1)/\i+1 <= n/\Pv (i+1) (acc++[y]) (upd H4 D (.lst (acc++[y])))))
    (hd:∀ acc H,Pv n acc H->Q (.ref D) H):CompW (Itr lo n) js tYes te σ Q D H1:=by
  refine⟨fun i m acc H=>m=n - i/\i <= n/\Pv i acc H,⟨n,by simp,Nat.zero_le _,h0⟩,?_⟩
  rintro i m acc H ⟨hm,hi,p⟩
  obtain⟨hD,hlen⟩:=hl i acc H p
  refine⟨hD,by omega,?_⟩
  by_cases hlt:i < n
  · refine .inr ⟨hlt,fun x H' y=>?_⟩
    obtain⟨e,y⟩:=y
    subst e y
    unfold tYes
    dsimp only
    rw[if_pos rfl]
    exact hs i m acc _ hlt p hm
  · have e:i=n:=by omega
    subst e
    exact .inl ⟨Nat.le_refl _,hd acc H p⟩
theorem comp_lst {K:PySem.W.Frag} {a:Addr} {xs:List V} {js:List Nat} {te:TE} {σ:St} {Q:VK} {D:Addr} {H1:Hp} (Pv:Nat->List V->Hp->Prop) (hz:xs.length < sizeLine) (h0:Pv 0 [] (upd H1 D (.lst [])))
    (hl:∀ i acc H,Pv i acc H->H D=some (.lst acc)/\acc.length=i/\SqL K H a xs)
    (hs:∀ i m x acc H,xs[i]?=some x->Pv i acc H->m=xs.length - i->te (some x::compS js σ) H fun y H4=>H4 D=some (.lst acc)/\∃ m',m' < m/\(m'=xs.length - (i+1)/\i+1 <= xs.length/\Pv (i+1) (acc++[y]) (upd H4 D (.lst (acc++[y])))))
    (hd:∀ acc H,Pv xs.length acc H->Q (.ref D) H):CompW (Itl K a) js tYes te σ Q D H1:=by
  refine⟨fun i m acc H=>m=xs.length - i/\i <= xs.length/\Pv i acc H,⟨xs.length,by simp,Nat.zero_le _,h0⟩,?_⟩
  rintro i m acc H ⟨hm,hi,p⟩
  obtain⟨hD,hlen,hq⟩:=hl i acc H p
  refine⟨hD,by omega,?_⟩
  by_cases hlt:i < xs.length
  · refine .inr ⟨⟨xs,xs[i],hq,by simp[hlt]⟩,fun x H' y=>?_⟩
    obtain⟨e,y⟩:=y
    subst e
    unfold tYes
    dsimp only
    rw[if_pos rfl]
    exact hs i m x acc _ (y xs hq) p hm
  · have e:i=xs.length:=by omega
    subst e
    exact .inl ⟨⟨xs,hq,Nat.le_refl _⟩,hd acc H p⟩
theorem comp_tpl {K:PySem.W.Frag} {a:Addr} {xs:List V} {js:List Nat} {te:TE} {σ:St} {Q:VK} {D:Addr} {H1:Hp} (Pv:Nat->List V->Hp->Prop) (hz:xs.length < sizeLine) (h0:Pv 0 [] (upd H1 D (.lst [])))
    (hl:∀ i acc H,Pv i acc H->H D=some (.lst acc)/\acc.length=i/\SqT K H a xs)
    (hs:∀ i m x acc H,xs[i]?=some x->Pv i acc H->m=xs.length - i->te (some x::compS js σ) H fun y H4=>H4 D=some (.lst acc)/\∃ m',m' < m/\(m'=xs.length - (i+1)/\i+1 <= xs.length/\Pv (i+1) (acc++[y]) (upd H4 D (.lst (acc++[y])))))
    (hd:∀ acc H,Pv xs.length acc H->Q (.ref D) H):CompW (Itt K a) js tYes te σ Q D H1:=by
  refine⟨fun i m acc H=>m=xs.length - i/\i <= xs.length/\Pv i acc H,⟨xs.length,by simp,Nat.zero_le _,h0⟩,?_⟩
  rintro i m acc H ⟨hm,hi,p⟩
  obtain⟨hD,hlen,hq⟩:=hl i acc H p
  refine⟨hD,by omega,?_⟩
  by_cases hlt:i < xs.length
  · refine .inr ⟨⟨xs,xs[i],hq,by simp[hlt]⟩,fun x H' y=>?_⟩
    obtain⟨e,y⟩:=y
    subst e
    unfold tYes
    dsimp only
    rw[if_pos rfl]
    exact hs i m x acc _ (y xs hq) p hm
  · have e:i=xs.length:=by omega
    subst e
    exact .inl ⟨⟨xs,hq,Nat.le_refl _⟩,hd acc H p⟩
end L2
namespace L2
open PySem PySem.Spec PyProof.Rows
section
variable {X:Cx}
theorem call_range1:CallR X (.type "range") (fun xs H Q=>∃ n,xs=[.int n]/\∀ p,H p=none->Q (.ref p) (upd H p (.rng 0 n))):=by
  intro pins s σ H xs us Q I r h
  obtain⟨n,rfl,q⟩:=h
  obtain⟨u,rfl,ru⟩:=vals1 r
  obtain⟨t,rfl⟩:=ru
  refine call_range_1 ⟨.ref s.heap.objs.size,_,I.laid (o:=.rng 0 n) (fun b ob q'=>Heap.get?_push_of_some _ q') (Nat.le_refl _) ⟨_,_,_,Heap.get?_push_size _ rfl⟩,rfl,q _ I.fresh⟩
theorem vals_items:∀ {vs:List V} {its:List Value},vs.length=its.length->(∀ (j:Nat) (x:V) (u:Value),vs[j]?=some x->its[j]?=some u->RelV x u)->Vals vs its
  | [],[],_,_=>.nil
  | [],_::_,h,_=>by simp at h
  | _::_,[],h,_=>by simp at h
  | v::vs,u::its,h,f=>.cons (f 0 v u rfl rfl) (vals_items (by simpa using h) fun j x w e1 e2=>f (j+1) x w (by simpa using e1) (by simpa using e2))
theorem call_list_rng (hc:X.calm=true):CallR X (.type "list") (fun xs H Q=>∃ p n,xs=[.ref p]/\H p=some (.rng 0 n)/\0 <= n/\n <= 1000000/\∀ l,H l=none->Q (.ref l) (upd H l (.lst ((List.range n.toNat).map fun (i:Nat)=>V.int (i:Int))))):=by
  intro pins s σ H xs us Q I r h
  obtain⟨p,n,rfl,hp,h0,h1,q⟩:=h
  obtain⟨u,rfl,ru⟩:=vals1 r
  cases ru
  obtain⟨t,t',t'',e⟩:=I.hok p _ hp
  have hsz:Builtin.Range.rangeSize 0 n 1=((n.toNat:Nat):Int):=by rw[rangeSize_one];split <;> omega
  refine call_list_range (n:=n.toNat) (I.ok.hd hc) e (small_one (by omega) (by omega) (by omega) (by omega)) hsz (by omega) fun h' tk acc' c' hk hS hacc=>?_
  have hlen:acc'.toList.length=n.toNat:=by have:=hacc.1;simpa using this
  refine⟨.ref s.heap.objs.size,_,I.laid (o:=.lst ((List.range n.toNat).map fun (i:Nat)=>V.int (i:Int))) hk (Nat.le_refl _) ⟨?_,acc'.toList,c',vals_items (by simp[hlen]) (fun j x w e1 e2=>?_),hS⟩,rfl,q _ I.fresh⟩
  · rw[List.length_map,List.length_range]
    have:=line63
    rw[sizeLine_eq]
    omega
  · have e2':acc'[j]?=some w:=by simpa using e2
    obtain⟨tt,ew⟩:=hacc.2 j w e2'
    rw[List.getElem?_map] at e1
    cases hj:(List.range n.toNat)[j]? with
    | none=>rw[hj] at e1;cases e1
    | some k=>
      rw[hj] at e1
      obtain⟨hl,ek⟩:=List.getElem?_eq_some_iff.mp hj
      rw[List.getElem_range] at ek
      subst ek
      cases e1
      exact⟨tt,by rw[ew];congr 1;omega⟩
theorem same_new {H:Hp} {p:Addr} (h:H p=none) (o:HO):Same H (upd H p o):=fun b u q=>by rw[upd_ne (ne_of_none q h)];exact q
theorem Same.tupS {K:PySem.W.Frag} {H H':Hp} {a:Addr} {xs:List V} (e:Same H H') (h:SqT K H a xs):SqT K H' a xs:=by
  rcases h with (h | ⟨o,h⟩) | h
  · exact .inl (.inl (e _ _ h))
  · exact .inl (.inr ⟨o,e _ _ h⟩)
  · exact .inr h
noncomputable def rCatA:R2:=fun x y H Q=>∃ a b xs ys,x=.ref a/\y=.ref b/\H a=some (.tup xs)/\H b=some (.tup ys)/\xs.length+ys.length <= sizeLine /\
  ∀ p H',Same H H'->H' p=some (.tup (xs++ys))->Q (.ref p) H'
theorem cat_tup0 {prog:Program} {w:World} {A:Around} {E:Value->Shared->Prop} {s:Shared} {t b:Addr} {vs ws:List Value} {Q:Value->Shared->Prop} (ht:IsTup s.heap t vs.toArray) (hb:IsTup s.heap b ws.toArray) (hv:vs=[]) (h:Q (.ref b) s) :
    wpAny (model prog w) A (binaryOp .Add (.ref t) (.ref b)) Q E s:=by
  obtain⟨⟨cls,dd,data,sl⟩,ho,hc,n,hd⟩:=id ht
  obtain⟨⟨cls2,dd2,data2,sl2⟩,ho2,hc2,n2,hd2⟩:=id hb
  simp only at hc hd hc2 hd2
  subst hc hd hc2 hd2
  refine concat_meets ⟨_,ho,rfl⟩ ⟨_,ho2,rfl⟩ noFill_tuple_add seq_tuple_add PySem.F.slot_tuple_add PySem.F.entry_tuple_add (PySem.F.args_tuple_add_2 _ _) (tuple_addW0 t b vs.toArray ws.toArray n n2 dd dd2 sl sl2 (by simp[hv])) ⟨ho,ho2,h⟩
theorem op_catA:OpR X (binaryOp .Add) rCatA:=by
  intro pins s σ H x y v u Q I rx ry h
  obtain⟨a,b,xs,ys,e1,e2,ha,hb,hz,q⟩:=h
  by_cases hx:xs=[]
  · subst e1 e2 hx
    cases rx
    cases ry
    obtain⟨its,r1,p1,_⟩:=I.tuple (.of ha)
    obtain⟨its2,r2,p2,_⟩:=I.tuple (.of hb)
    exact cat_tup0 p1 p2 (by cases r1;rfl) ⟨.ref b,H,I,rfl,q b H (Same.refl H) hb⟩
  · refine op_catT pins s σ H x y v u Q I rx ry ⟨a,b,xs,ys,e1,e2,.of ha,.of hb,hx,hz,fun hy=>q a H (Same.refl H) (by rw[hy,List.append_nil];exact ha),fun _ p hp=>q p _ (same_new hp _) upd_same⟩
end
end L2
namespace L2
open PySem PySem.Spec PyProof.Rows
section
variable {X:Cx}
theorem call_isinst:CallR X (.builtin "isinstance") (fun xs H Q=>∃ x T t b,xs=[x,.ty T]/\TyOf X.K H x t/\PySem.W.kitOne X.K t (.type T)=some b/\Q (.bl b) H):=by
  intro pins s σ H xs us Q I r h
  obtain⟨x,T,t,b,rfl,ty,e,q⟩:=h
  obtain⟨u,w,rfl,ru,rw'⟩:=vals2 r
  cases rw'
  exact isinst_ok I ru ty e fun tk=>⟨.bl b,H,I.tok tk,rfl,q⟩
end
end L2
namespace L2
open PySem PySem.Spec PyProof.Rows
section
variable {X:Cx} {es:List Expr} {te:TE} {t:TA} {env:Env}
theorem starT {a:List Expr} {k:Nat} {p:Pos}:starEach (.Tuple a k p::es) env=(false,eval (.Tuple a k p) env)::starEach es env:=by first | rfl | (rw[starEach];intro _ _ z;cases z)
theorem paT {a:List Expr} {k:Nat} {p:Pos} (ha:PE X (.Tuple a k p) te) (hr:PA X es t):PA X (.Tuple a k p::es) (tCons te t):=pa_cons ha hr starT
theorem starL {a:List Expr} {p:Pos}:starEach (.List a p::es) env=(false,eval (.List a p) env)::starEach es env:=by first | rfl | (rw[starEach];intro _ _ z;cases z)
theorem paL {a:List Expr} {p:Pos} (ha:PE X (.List a p) te) (hr:PA X es t):PA X (.List a p::es) (tCons te t):=pa_cons ha hr starL
theorem starC {c:Const} {k:Nat} {p:Pos}:starEach (.Constant c k p::es) env=(false,eval (.Constant c k p) env)::starEach es env:=by first | rfl | (rw[starEach];intro _ _ z;cases z)
theorem paC {c:Const} {k:Nat} {p:Pos} (ha:PE X (.Constant c k p) te) (hr:PA X es t):PA X (.Constant c k p::es) (tCons te t):=pa_cons ha hr starC
theorem starN {x:Str} {p:Pos}:starEach (.Name x p::es) env=(false,eval (.Name x p) env)::starEach es env:=by first | rfl | (rw[starEach];intro _ _ z;cases z)
theorem paN {x:Str} {p:Pos} (ha:PE X (.Name x p) te) (hr:PA X es t):PA X (.Name x p::es) (tCons te t):=pa_cons ha hr starN
theorem starB {l r:Expr} {o:Operator} {p:Pos}:starEach (.BinOp l o r p::es) env=(false,eval (.BinOp l o r p) env)::starEach es env:=by first | rfl | (rw[starEach];intro _ _ z;cases z)
theorem paB {l r:Expr} {o:Operator} {p:Pos} (ha:PE X (.BinOp l o r p) te) (hr:PA X es t):PA X (.BinOp l o r p::es) (tCons te t):=pa_cons ha hr starB
theorem starS {v i:Expr} {p:Pos}:starEach (.Subscript v i p::es) env=(false,eval (.Subscript v i p) env)::starEach es env:=by first | rfl | (rw[starEach];intro _ _ z;cases z)
theorem paS {v i:Expr} {p:Pos} (ha:PE X (.Subscript v i p) te) (hr:PA X es t):PA X (.Subscript v i p::es) (tCons te t):=pa_cons ha hr starS
theorem starK {f:Expr} {a:List Expr} {k:List Keyword} {p:Pos}:starEach (.Call f a k p::es) env=(false,eval (.Call f a k p) env)::starEach es env:=by first | rfl | (rw[starEach];intro _ _ z;cases z)
theorem paK {f:Expr} {a:List Expr} {k:List Keyword} {p:Pos} (ha:PE X (.Call f a k p) te) (hr:PA X es t):PA X (.Call f a k p::es) (tCons te t):=pa_cons ha hr starK
theorem starM {l:Expr} {o:List CmpOp} {c:List Expr} {p:Pos}:starEach (.Compare l o c p::es) env=(false,eval (.Compare l o c p) env)::starEach es env:=by first | rfl | (rw[starEach];intro _ _ z;cases z)
theorem paM {l:Expr} {o:List CmpOp} {c:List Expr} {p:Pos} (ha:PE X (.Compare l o c p) te) (hr:PA X es t):PA X (.Compare l o c p::es) (tCons te t):=pa_cons ha hr starM
theorem starE {e:Expr} {g:List Comprehension} {s:Scope} {p:Pos}:starEach (.ListComp e g s p::es) env=(false,eval (.ListComp e g s p) env)::starEach es env:=by first | rfl | (rw[starEach];intro _ _ z;cases z)
theorem paE {e:Expr} {g:List Comprehension} {s:Scope} {p:Pos} (ha:PE X (.ListComp e g s p) te) (hr:PA X es t):PA X (.ListComp e g s p::es) (tCons te t):=pa_cons ha hr starE
theorem starJ {v:List Expr} {p:Pos}:starEach (.JoinedStr v p::es) env=(false,eval (.JoinedStr v p) env)::starEach es env:=by first | rfl | (rw[starEach];intro _ _ z;cases z)
theorem paJ {v:List Expr} {p:Pos} (ha:PE X (.JoinedStr v p) te) (hr:PA X es t):PA X (.JoinedStr v p::es) (tCons te t):=pa_cons ha hr starJ
end
end L2
namespace L2
open PySem PySem.Spec PyProof.Rows
theorem iteY {c:Bool} {A B:Prop} (h:c=true) (q:A):if c=true then A else B:=by rw[if_pos h];exact q
theorem iteN {c:Bool} {A B:Prop} (h:c=false) (q:B):if c=true then A else B:=by rw[if_neg (by rw[h];decide)];exact q
theorem iteYd {p:Prop} [Decidable p] {A B:Prop} (h:p) (q:A):if decide p=true then A else B:=by rw[if_pos (decide_eq_true h)];exact q
theorem iteNd {p:Prop} [Decidable p] {A B:Prop} (h:¬ p) (q:B):if decide p=true then A else B:=by rw[if_neg (by rw[decide_eq_false h];decide)];exact q
theorem iteDd {p:Prop} [Decidable p] {A B:Prop} (h1:p->A) (h2:¬ p->B):if decide p=true then A else B:=by
  by_cases h:p
  · exact iteYd h (h1 h)
  · exact iteNd h (h2 h)
section
variable {K:PySem.W.Frag}
theorem k_ss:PySem.W.kitOne K (.type "str") (.type "str")=some true:=by with_unfolding_all rfl
theorem k_tt:PySem.W.kitOne K (.type "tuple") (.type "tuple")=some true:=by with_unfolding_all rfl
theorem k_ii:PySem.W.kitOne K (.type "int") (.type "int")=some true:=by with_unfolding_all rfl
theorem k_ib:PySem.W.kitOne K (.type "int") (.type "bool")=some false:=by with_unfolding_all rfl
theorem isd_int {H:Hp} (n:Int):Isd K H (.fl (.int n)) (.int n):=by unfold Isd;exact⟨rfl,rfl⟩
theorem isd_str {H:Hp} (n:Str):Isd K H (.fl (.str n)) (.str n):=by unfold Isd;exact⟨rfl,rfl⟩
theorem isds_nil {H:Hp}:Isds K H [] []:=by unfold Isds;rfl
theorem isds_cons {H:Hp} {d:Da} {ds:List Da} {v:V} {vs:List V} (h:Isd K H d v) (t:Isds K H ds vs):Isds K H (d::ds) (v::vs):=by unfold Isds;exact⟨_,_,rfl,h,t⟩
end
theorem fits2 {n:Nat} (h:n <= 100000):n <= sizeLine:=Nat.le_trans h (by decide)
theorem fitsL {n:Nat} (h:n <= 100000):n < sizeLine:=Nat.lt_of_le_of_lt h (by decide)
theorem same_upd {H H':Hp} {D:Addr} {o:HO} (hn:H D=none) (s:Same H H'):Same H (upd H' D o):=fun b u q=>by rw[upd_ne (ne_of_none q hn)];exact s b u q
end L2
namespace L2
open PySem PySem.Spec PyProof.Rows
section
variable {X:Cx}
theorem ints_items {its:List Value} {ns:List Int} (hi:IntsAre its ns):∃ xs:Array (Int × Tok),its.toArray=intItems xs/\ns=xs.toList.map (·.1):=by
  obtain⟨xs,e⟩:=hi.allInts.items
  exact⟨xs,e,by rw[<- hi.numsOf,<- nums_intItems,<- e]⟩
theorem call_sum (hc:X.calm=true):CallR X (.builtin "sum") (fun xs H Q=>∃ (p:Addr) (ns:List Int),xs=[.ref p]/\SqL X.K H p (ns.map V.int)/\Q (.int ns.sum) H):=by
  intro pins s σ H xs us Q I r h
  obtain⟨p,ns,rfl,hq,q⟩:=h
  obtain⟨u,rfl,ru⟩:=vals1 r
  cases ru
  obtain⟨its,rv,pl,_⟩:=I.list hq
  obtain⟨xs,e,hns⟩:=ints_items (intsAre_of rv)
  have hl:=pl.isList
  rw[e] at hl
  refine sum_intListG (I.ok.hd hc) hl fun h' tk t' hk=>⟨.int _,H,I.kept hk,⟨t',rfl⟩,?_⟩
  rw[preSum_eq,List.take_of_length_le (by simp),<- hns]
  exact q
theorem call_maxL (hc:X.calm=true):CallR X (.builtin "max") (fun xs H Q=>∃ (p:Addr) (ns:List Int),xs=[.ref p]/\SqL X.K H p (ns.map V.int)/\ns ≠ []/\∀ M,M ∈ ns->(∀ a ∈ ns,a <= M)->Q (.int M) H):=by
  intro pins s σ H xs us Q I r h
  obtain⟨p,ns,rfl,hq,hne,q⟩:=h
  obtain⟨u,rfl,ru⟩:=vals1 r
  cases ru
  obtain⟨its,rv,pl,_⟩:=I.list hq
  obtain⟨xs,e,hns⟩:=ints_items (intsAre_of rv)
  have hl:=pl.isList
  rw[e] at hl
  have hsz:0 < xs.size:=by
    have z:0 < ns.length:=List.length_pos_iff.mpr hne
    rw[hns,List.length_map,Array.length_toList] at z
    exact z
  refine max_intList (I.ok.hd hc) hl hsz fun v h' tk hv hk=>?_
  obtain⟨t,rfl⟩:=intItems_at hv
  obtain⟨h1,h2⟩:=argBest_gt (numAt xs) (xs.size - 1)
  refine⟨.int _,H,I.kept hk,⟨t,rfl⟩,q _ ?_ fun a ha=>?_⟩
  · rw[hns,numAt_eq]
    exact getD_mem (by rw[List.length_map,Array.length_toList];omega)
  · rw[hns] at ha
    obtain⟨j,hj,rfl⟩:=mem_getD ha
    rw[List.length_map,Array.length_toList] at hj
    rw[<- numAt_eq]
    exact h2 j (by omega)
end
def BestTo (xs:Array (Int × Tok)) (j:Nat) (b:Int):Prop:=(∃ i,i <= j/\numAt xs i=b)/\∀ i,i <= j->numAt xs i <= b
section
variable {prog:Program} {w:World} {A:Around} {R:Result->Shared->Prop} {I S l:Addr} {d:Value} {xs:Array (Int × Tok)}
noncomputable def bestObj (vs:Array Value) (c:Nat):Obj:={ cls:=.type "list",dict:=none,data:=.seq vs c,slots:=#[] }
theorem mxd_name:(toString "max"++toString ".loop" : String) = "max.loop":=by decide
theorem mxd_loop (hh:A.handled=none) (hlI:l ≠ I) (hSI:S ≠ I) (hSl:S ≠ l) :
    ∀ (k j:Nat) (s:Shared) (b:Int) (tb:Tok) (c:Nat),xs.size=j+1+k->s.heap.IsListIter I l (j+1)/\s.heap.IsList l (intItems xs)->BestTo xs j b ->
      s.heap.get? S=some (bestObj #[.int b tb,.int b tb] c) ->
      (∀ M t h' tk,BestTo xs (xs.size - 1) M->(∀ a o,a ≠ I->a ≠ S->s.heap.get? a=some o->h'.get? a=some o)->R (.ok (.ret (.int M t))) { s with heap:=h',toks:=tk }) ->
      codeAny (model prog w) A (.builtin "max.loop" ⟨[.ref I,.none,.ref S],[(Str.ofString "default",d)]⟩) R s:=by
  have W:=Walks.list (prog:=prog) (w:=w) (A:=A.in1) hh I l hlI (intItems xs)
  have hz:(intItems xs).size=xs.size:=by simp[intItems]
  intro k
  induction k with
  | zero=>
    intro j s b tb c hk st hb hS hR
    refine codeAny_builtin F.entry_max_loop ?_
    rw[Around.under_plainId F.plain_max_loop _]
    show wpAny _ A.in1 (seqItems? (.ref S) >>= _) _ _ s
    refine wpAny_bind (wpAny_seqItems hS rfl ?_)
    show wpAny _ A.in1 (tryCatch (pyNext (.ref I)) _ >>= _) _ _ s
    have e0:j+1=(intItems xs).size:=by omega
    refine wpAny_bind (wpAny_tryCatch (W.done s _ _ (e0 ▸ st) fun h' tk hk'=>?_))
    have hS':=hk' S _ (by simpa using hSI) hS
    show wpAny _ A.in1 (updateSeq S (fun _=>#[]) >>= _) _ _ _
    refine wpAny_bind ?_
    refine wpAny_updateSeq hS' rfl (wpAny_bind (wpAny_letGo (wpAny_pure ?_)))
    refine hR b tb _ tk (by have:xs.size - 1=j:=by omega
                            rw[this];exact hb) fun a o ha haS e=>(Heap.get?_update_other _ _ (Ne.symm haS)).trans (hk' a o (by simpa using ha) e)
  | succ k ih=>
    intro j s b tb c hk st hb hS hR
    refine codeAny_builtin F.entry_max_loop ?_
    rw[Around.under_plainId F.plain_max_loop _]
    show wpAny _ A.in1 (seqItems? (.ref S) >>= _) _ _ s
    refine wpAny_bind (wpAny_seqItems hS rfl ?_)
    show wpAny _ A.in1 (tryCatch (pyNext (.ref I)) _ >>= _) _ _ s
    refine wpAny_bind (wpAny_tryCatch (W.item (j+1) s _ _ (by omega) st fun v h' tk hP st' hk'=>?_))
    have hS':=hk' S _ (by simpa using hSI) hS
    obtain⟨tv,rfl⟩:=intItems_at hP
    show wpAny _ A.in1 (tryCatch (holding [_,_] (richCompare .Gt (.int (numAt xs (j+1)) tv) (.int b tb) >>= _)) _ >>= _) _ _ _
    have cmp:=CmpOf.ints_gt (prog:=prog) (w:=w) (A:=A.in1) (P:=fun i v=>∃ t,v=.int (if i=0 then numAt xs (j+1) else b) t) (fun i=>if i=0 then numAt xs (j+1) else b) (fun _ _ h=>h)
    refine wpAny_bind (wpAny_tryCatch (wpAny_holding (wpAny_bind (cmp 0 1 _ _ _ _ _ ⟨tv,by simp⟩ ⟨tb,by simp⟩ ?_))))
    refine wpAny_bind (wpAny_holding (wpAny_truthy_bool ?_))
    refine wpAny_bind (wpAny_letGo (wpAny_pure ?_))
    have st2:∀ h2:Heap,(∀ a o,a ≠ S->h'.get? a=some o->h2.get? a=some o)->h2.IsListIter I l (j+1+1)/\h2.IsList l (intItems xs):=fun h2 e=>W.frame _ _ _ st' fun a ha o q=>e a o (by
      rintro rfl
      simp at ha
      rcases ha with ha | ha
      · exact hSI ha
      · exact hSl ha) q
    by_cases hlt:numAt xs (j+1) > b
    · have hd:decide ((if (0:Nat)=0 then numAt xs (j+1) else b) > (if (1:Nat)=0 then numAt xs (j+1) else b))=true:=by simpa using hlt
      show wpAny _ A.in1 (if decide ((if (0:Nat)=0 then numAt xs (j+1) else b) > (if (1:Nat)=0 then numAt xs (j+1) else b))=true then _ else _) _ _ _
      rw[hd]
      simp only[if_true]
      refine wpAny_bind ?_
      refine wpAny_updateSeq hS' rfl (wpAny_bind (wpAny_letGo ?_))
      rw[mxd_name]
      refine wpAny_pure ⟨plainId_quiet F.plain_max_loop _,ih (j+1) _ (numAt xs (j+1)) tv _ (by omega) (st2 _ fun a o ha q=>(Heap.get?_update_other _ _ (Ne.symm ha)).trans q) ⟨⟨j+1,Nat.le_refl _,rfl⟩,fun i hi=>?_⟩ (Heap.get?_update_self _ hS' rfl) fun M t h2 tk2 hM hk2=>?_⟩
      · by_cases e:i=j+1
        · subst e;exact Int.le_refl _
        · have:=hb.2 i (by omega);omega
      · exact hR M t h2 tk2 hM fun a o ha haS q=>hk2 a o ha haS ((Heap.get?_update_other _ _ (Ne.symm haS)).trans (hk' a o (by simpa using ha) q))
    · have hd:decide ((if (0:Nat)=0 then numAt xs (j+1) else b) > (if (1:Nat)=0 then numAt xs (j+1) else b))=false:=by simpa using hlt
      show wpAny _ A.in1 (if decide ((if (0:Nat)=0 then numAt xs (j+1) else b) > (if (1:Nat)=0 then numAt xs (j+1) else b))=true then _ else _) _ _ _
      rw[hd]
      simp only[Bool.false_eq_true,if_false]
      refine wpAny_bind (wpAny_letGo ?_)
      rw[mxd_name]
      refine wpAny_pure ⟨plainId_quiet F.plain_max_loop _,ih (j+1) _ b tb c (by omega) st' ⟨?_,fun i hi=>?_⟩ hS' fun M t h2 tk2 hM hk2=>?_⟩
      · obtain⟨i,hi,e⟩:=hb.1
        exact⟨i,by omega,e⟩
      · by_cases e:i=j+1
        · subst e;omega
        · exact hb.2 i (by omega)
      · exact hR M t h2 tk2 hM fun a o ha haS q=>hk2 a o ha haS (hk' a o (by simpa using ha) q)
theorem args_maxD (a v:Value):argsOk "max" ⟨[a],[(Str.ofString "default",v)]⟩:=by unfold argsOk;kernel_rfl
theorem max_dflt {E:Value->Shared->Prop} {s:Shared} {Q:Value->Shared->Prop} (hh:A.handled=none) (hl:s.heap.IsList l (intItems xs))
    (h0:xs.size=0->∀ h' tk,(∀ a o,s.heap.get? a=some o->h'.get? a=some o)->Q d { s with heap:=h',toks:=tk })
    (h1:∀ M t h' tk,xs.size ≠ 0->BestTo xs (xs.size - 1) M->(∀ a o,s.heap.get? a=some o->h'.get? a=some o)->Q (.int M t) { s with heap:=h',toks:=tk }) :
    wpAny (model prog w) A (call (.builtin "max") [.ref l] [(Str.ofString "default",d)]) Q E s:=by
  have hz:(intItems xs).size=xs.size:=by simp[intItems]
  refine kmk_tree F.kind_max F.plain_max F.entry_max (args_maxD _ _) ?_
  show wpAny _ A.in1 (Builtin.Builtins.bindParams "max" ["key", "default"] 0 ⟨[],[(Str.ofString "default",d)]⟩ >>= _) _ _ s
  refine wpAny_bind (wpAny_of_eq (show Builtin.Builtins.bindParams "max" ["key", "default"] 0 ⟨[],[(Str.ofString "default",d)]⟩=pure [none,some d] from rfl) ?_)
  refine wpAny_bind (wpAny_pure ?_)
  refine wpAny_bind (iter_intList hl fun s₂ e st hfp hlI=>?_)
  refine wpAny_bind (wpAny_newObj_type ?_)
  rw[mxd_name]
  generalize hSs:s₂.heap.objs.size=S
  have gone:∀ a o,s.heap.get? a=some o->a ≠ s.heap.objs.size/\a ≠ S/\s₂.heap.get? a=some o:=fun a o q=>by
    have l1:=Heap.lt_size q
    refine⟨Nat.ne_of_lt l1,?_,?_⟩
    · rw[<- hSs]
      exact Nat.ne_of_lt (Nat.lt_trans l1 (hfp _ (by simp)))
    · rw[e]
      exact Heap.get?_push_of_some _ q
  have hSI:S ≠ s.heap.objs.size:=by
    rw[<- hSs]
    exact Nat.ne_of_gt (hfp _ (by simp))
  have hSl:S ≠ l:=by
    rw[<- hSs]
    exact Nat.ne_of_gt (hfp _ (by simp))
  have W:=Walks.list (prog:=prog) (w:=w) (A:=A.in1) hh s.heap.objs.size l hlI (intItems xs)
  refine wpAny_pure ⟨plainId_quiet F.plain_max_loop _,?_⟩
  have gS:(s₂.heap.push { cls:=.type "list",dict:=none,data:=.seq ([]:List Value).toArray }).get? S=some (bestObj #[] 0):=by
    rw[<- hSs]
    exact Heap.get?_push_size _ rfl
  have st1:(s₂.heap.push { cls:=.type "list",dict:=none,data:=.seq ([]:List Value).toArray }).IsListIter s.heap.objs.size l 0/\(s₂.heap.push { cls:=.type "list",dict:=none,data:=.seq ([]:List Value).toArray }).IsList l (intItems xs):=
    W.frame _ _ _ st fun b _ o q=>Heap.get?_push_of_some _ q
  refine codeAny_builtin F.entry_max_loop ?_
  rw[Around.under_plainId F.plain_max_loop _]
  show wpAny _ A.in1 (seqItems? (.ref _) >>= _) _ _ _
  refine wpAny_bind (wpAny_seqItems gS rfl ?_)
  show wpAny _ A.in1 (tryCatch (pyNext (.ref s.heap.objs.size)) _ >>= _) _ _ _
  by_cases hn:xs.size=0
  · refine wpAny_bind (wpAny_tryCatch (W.done _ _ _ (by rw[hz,hn];exact st1) fun h' tk hk'=>?_))
    refine wpAny_bind (wpAny_rule (wpAny_pure ?_))
    subst e
    exact h0 hn h' tk fun a o q=>hk' a o (by simpa using (gone a o q).1) (Heap.get?_push_of_some _ (gone a o q).2.2)
  · refine wpAny_bind (wpAny_tryCatch (W.item 0 _ _ _ (by rw[hz];omega) st1 fun v h' tk hP st' hk'=>?_))
    obtain⟨tv,rfl⟩:=intItems_at hP
    have hS':=hk' S _ (by simpa using hSI) gS
    show wpAny _ A.in1 (updateSeq S (fun _=>#[.int (numAt xs 0) tv,.int (numAt xs 0) tv]) >>= _) _ _ _
    refine wpAny_bind ?_
    refine wpAny_updateSeq hS' rfl ?_
    rw[mxd_name]
    refine wpAny_pure ⟨plainId_quiet F.plain_max_loop _,mxd_loop hh hlI hSI hSl (xs.size - 1) 0 _ (numAt xs 0) tv _ (by omega) (W.frame _ _ _ st' fun a ha o q=>?_) ⟨⟨0,Nat.le_refl _,rfl⟩,fun i hi=>?_⟩ (Heap.get?_update_self _ hS' rfl) fun M t h2 tk2 hM hk2=>?_⟩
    · refine (Heap.get?_update_other _ _ ?_).trans q
      rintro rfl
      simp at ha
      rcases ha with ha | ha
      · exact hSI ha
      · exact hSl ha
    · obtain rfl:i=0:=by omega
      exact Int.le_refl _
    · subst e
      exact h1 M t h2 tk2 hn hM fun a o q=>hk2 a o (gone a o q).1 (gone a o q).2.1 ((Heap.get?_update_other _ _ (Ne.symm (gone a o q).2.1)).trans (hk' a o (by simpa using (gone a o q).1) (Heap.get?_push_of_some _ (gone a o q).2.2)))
end
section
variable {X:Cx}
def tMaxD (K:PySem.W.Frag) (te:TE) (n:Int):TE:=fun σ H Q=>te σ H fun x H1=>∃ (p:Addr) (ns:List Int),x=.ref p/\SqL K H1 p (ns.map V.int)/\(ns=[]->Q (.int n) H1)/\∀ M,M ∈ ns->(∀ a ∈ ns,a <= M)->Q (.int M) H1
theorem pe_maxD {e:Expr} {te:TE} {n:Int} {j:Nat} {p pos kp cp:Pos} (hc:X.calm=true) (hg:Gl X "max") (hm:X.mg "max" = none) (he:PE X e te) (hst:starEach [e] X.env=[(false,eval e X.env)]:=by rfl) :
    PE X (.Call (.Name "max" p) [e] [⟨some "default",.Constant (.int n) j cp,kp⟩] pos) (tMaxD X.K te n):=by
  intro pins s σ H Q I h
  refine wpAny_Call_Name_kw (ld_blt I hg hm PyProof.Rows.boot_max ?_)
  refine callWith_kw ?_ (by rw[hst];rfl) (by rw[hst];rfl)
  rw[hst]
  refine Calls.spliced_cons (thn (he pins s σ H _ I h) fun u s1 ⟨x,H1,I1,r1,q1⟩=>Calls.spliced_nil (kws_cons (wpAny_Constant_int (kws_nil ?_))))
  obtain⟨a,ns,rfl,hq,q0,q1⟩:=q1
  cases r1
  have I2:=I1.tok (s1.toks+1)
  obtain⟨its,rv,pl,_⟩:=I2.list hq
  obtain⟨xs,ex,hns⟩:=ints_items (intsAre_of rv)
  have hl:=pl.isList
  rw[ex] at hl
  refine max_dflt (I.ok.hd hc) hl (fun z h' tk hk=>⟨.int n,H1,I2.kept hk,⟨_,rfl⟩,q0 ?_⟩) fun M t h' tk hn hM hk=>⟨.int M,H1,I2.kept hk,⟨t,rfl⟩,q1 M ?_ fun a ha=>?_⟩
  · rw[hns]
    have:xs = #[]:=Array.size_eq_zero_iff.mp z
    rw[this]
    rfl
  · obtain⟨i,hi,ei⟩:=hM.1
    rw[<- ei,hns,numAt_eq]
    exact getD_mem (by rw[List.length_map,Array.length_toList];omega)
  · rw[hns] at ha
    obtain⟨j,hj,rfl⟩:=mem_getD ha
    rw[List.length_map,Array.length_toList] at hj
    rw[<- numAt_eq]
    exact hM.2 j (by omega)
theorem op_rep_str:OpR X (binaryOp .Mult) (fun x y H Q=>∃ z n,x=.str z/\y=.int n/\z.length <= 1000/\n <= 1000/\-1000 <= n/\Q (.str (Txt.mul z n)) H):=by
  intro pins s σ H x y v u Q I rx ry h
  obtain⟨z,n,rfl,rfl,h1,h2,h3,q⟩:=h
  obtain⟨t,rfl⟩:=rx
  obtain⟨t',rfl⟩:=ry
  refine SB.mul ⟨?_,fun hn _=>?_,fun hn _=>?_⟩ fun t' k=>⟨.str _,H,I.tok k,⟨t',rfl⟩,q⟩
  · rw[decide_eq_false (by omega),decide_eq_false (by omega)]
    rfl
  · have e:(1000:Int) <= (2 ^ 63 - 1) / n:=Int.le_ediv_of_mul_le (by omega) (by omega)
    omega
  · have hle:z.length * n.toNat <= 1000 * 1000:=Nat.mul_le_mul h1 (by omega)
    unfold PySem.Builtin.Str.tooLong
    simp only[decide_eq_false_iff_not]
    rw[sizeLine_eq]
    omega
theorem op_eqNil (hu:X.A.units+64 < cLine):OpR X (compareOp .Eq) (fun x y H Q=>∃ a b xs,x=.ref a/\y=.ref b/\SqL X.K H a xs/\SqL X.K H b []/\Q (.bl (decide (xs=[]))) H):=by
  intro pins s σ H x y v u Q I rx ry h
  obtain⟨a,b,xs,e1,e2,ha,hb,q⟩:=h
  by_cases hx:xs=[]
  · subst hx
    refine op_eqD hu pins s σ H x y v u Q I rx ry ⟨a,b,[],[],[],[],e1,e2,.inr ⟨ha,hb⟩,isds_nil,isds_nil,by unfold depDs;omega,?_⟩
    have e:id (eqDs [] [])=decide (([]:List V)=[]):=by unfold eqDs;rfl
    rw[e]
    exact q
  · subst e1 e2
    cases rx
    cases ry
    obtain⟨us,r1,p1,_⟩:=I.list ha
    obtain⟨ws,r2,p2,_⟩:=I.list hb
    cases r2
    have hne:us ≠ []:=fun z=>hx ((Vals.nil_iff r1).mp z)
    refine SeqAt.eq_list_lengthsAt p1.isList p2.isList (by simpa using hne) (by omega) ⟨.bl _,H,I,?_,q⟩
    rw[decide_eq_false hx]
    rfl
noncomputable def eqAny (K:PySem.W.Frag) (H:Hp) (d:Da) (u:Value):Bool:=@decide (∃ e v,RelV v u/\Isd K H e v/\eqD e d=true) (Classical.propDecidable _)
theorem any_items {pins:List (Addr × Obj)} {s:Shared} {σ:St} {H:Hp} (I:Inv X pins σ H s) (d:Da):∀ {ds:List Da} {xs:List V} {us:List Value},Isds X.K H ds xs->Vals xs us ->
    (∀ u ∈ us,∃ e v,RelV v u/\Isd X.K H e v/\e ∈ ds/\eqAny X.K H d u=eqD e d)/\us.any (eqAny X.K H d)=ds.any (fun e=>eqD e d)
  | [],xs,us,h,r=>by
    unfold Isds at h
    subst h
    cases r
    exact⟨(fun u hu=>nomatch hu),rfl⟩
  | e::ds,xs,us,h,r=>by
    unfold Isds at h
    obtain⟨v,vs,rfl,he,hs⟩:=h
    cases r with
    | cons r1 r2=>
      rename_i u us'
      obtain⟨ih1,ih2⟩:=any_items I d hs r2
      have ee:eqAny X.K H d u=eqD e d:=by
        unfold eqAny
        cases hb:eqD e d with
        | true=>exact @decide_eq_true _ (Classical.propDecidable _) ⟨e,v,r1,he,hb⟩
        | false=>
          refine @decide_eq_false _ (Classical.propDecidable _) ?_
          rintro⟨e',v',r',he',hb'⟩
          have:v'=v:=r'.inj r1
          subst this
          have:e'=e:=Isd.inj I e' e he' he
          subst this
          rw[hb] at hb'
          cases hb'
      refine⟨fun u' hu=>?_,by rw[List.any_cons,List.any_cons,ee,ih2]⟩
      rcases List.mem_cons.mp hu with rfl | hu
      · exact⟨e,v,r1,he,List.mem_cons_self,ee⟩
      · obtain⟨e',v',a,b,c,q⟩:=ih1 u' hu
        exact⟨e',v',a,b,List.mem_cons_of_mem _ c,q⟩
theorem dep_mem {ds:List Da} {e:Da} (h:e ∈ ds):depD e <= depDs ds:=by
  obtain⟨i,hi,rfl⟩:=List.mem_iff_getElem.mp h
  exact depD_mem (j:=i) (List.getElem?_eq_getElem hi)
noncomputable def rInD (K:PySem.W.Frag) (f:Bool->Bool):R2:=fun x y H Q=>∃ p xs d ds,y=.ref p/\SqL K H p xs/\Isd K H d x/\Isds K H ds xs/\depDs ds <= 50/\Q (.bl (f (ds.any fun e=>eqD e d))) H
theorem op_notInD (hu:X.A.units+64 < cLine):OpR X (compareOp .NotIn) (rInD X.K not):=by
  intro pins s σ H x y v u Q I rx ry h
  obtain⟨p,xs,d,ds,rfl,hq,hd,hs,hz,q⟩:=h
  cases ry
  obtain⟨us,r1,p1,_⟩:=I.list hq
  obtain⟨a1,a2⟩:=any_items I d hs r1
  refine SeqAt.notIn_listAt (eqAny X.K H d) p1.isList (fun w hw=>?_) ⟨.bl _,H,I,?_,q⟩
  · obtain⟨e,z,r,he,hm,ee⟩:=a1 w (by simpa using hw)
    rw[ee]
    exact eqAt_D I 50 e d (Nat.le_trans (dep_mem hm) hz) he hd r rx (by show X.A.units+1+50 < cLine;omega)
  · show Value.bool _=_
    rw[<- a2]
    simp
end
end L2
namespace L2
open PySem PySem.Spec PyProof.Rows
section
variable {X:Cx} {K:PySem.W.Frag}
theorem ix_tupC (h:X.K=K):IxR X (rIxT K):=h ▸ ix_tup
theorem ix_listC (h:X.K=K):IxR X (rIxL K):=h ▸ ix_list
theorem op_notInDC (h:X.K=K) (hu:X.A.units+64 < cLine):OpR X (compareOp .NotIn) (rInD K not):=h ▸ op_notInD hu
end
theorem take_snoc {α:Type} {xs:List α} {i:Nat} {x:α} (h:xs[i]?=some x):xs.take (i+1)=xs.take i++[x]:=by
  rw[List.take_add_one,h]
  rfl
theorem lt_of_some {α:Type} {xs:List α} {i:Nat} {x:α} (h:xs[i]?=some x):i < xs.length:=(List.getElem?_eq_some_iff.mp h).1
theorem some_of_lt {α:Type} {xs:List α} {i:Nat} (h:i < xs.length):∃ x,xs[i]?=some x:=⟨_,List.getElem?_eq_getElem h⟩
section
variable {K:PySem.W.Frag} {a:Addr} {xs ys:List V} {js:List Nat} {tc:TT} {te:TE} {σ:St} {Q:VK} {D:Addr} {H1:Hp}
theorem comp_tupM (hz:xs.length < sizeLine) (hlen:ys.length=xs.length) (ha:SqT K H1 a xs) (hD:H1 D=none)
    (he:∀ (i:Nat) (x y:V) (H:Hp),xs[i]?=some x->ys[i]?=some y->Same H1 H->∀ Q':VK,(∀ H',Same H H'->Q' y H')->te (some x::compS js σ) H Q')
    (hq:∀ H',Same H1 H'->H' D=some (.lst ys)->Q (.ref D) H'):CompW (Itt K a) js tYes te σ Q D H1:=by
  refine comp_tpl (K:=K) (a:=a) (xs:=xs) (fun i acc H=>i <= xs.length/\acc=ys.take i/\Same H1 H/\H D=some (.lst acc)) hz ⟨Nat.zero_le _,rfl,same_new hD _,upd_same⟩ (fun i acc H ⟨l,e,s,d⟩=>⟨d,?_,Same.tupS s ha⟩) ?_ ?_
  · rw[e,List.length_take]
    omega
  · rintro i m x acc H hi ⟨l,e,s,d⟩ hm
    have hlt:=lt_of_some hi
    obtain⟨y,hy⟩:=some_of_lt (xs:=ys) (i:=i) (by omega)
    exact he i x y H hi hy s _ fun H' s'=>cstep hlt hm (s' _ _ d) ⟨hlt,by rw[e,take_snoc hy],same_upd hD (s.trans s'),upd_same⟩
  · rintro acc H ⟨l,e,s,d⟩
    rw[List.take_of_length_le (by omega)] at e
    exact hq H s (by rw[d,e])
theorem comp_lstM (hz:xs.length < sizeLine) (hlen:ys.length=xs.length) (ha:SqL K H1 a xs) (hD:H1 D=none)
    (he:∀ (i:Nat) (x y:V) (H:Hp),xs[i]?=some x->ys[i]?=some y->Same H1 H->∀ Q':VK,(∀ H',Same H H'->Q' y H')->te (some x::compS js σ) H Q')
    (hq:∀ H',Same H1 H'->H' D=some (.lst ys)->Q (.ref D) H'):CompW (Itl K a) js tYes te σ Q D H1:=by
  refine comp_lst (K:=K) (a:=a) (xs:=xs) (fun i acc H=>i <= xs.length/\acc=ys.take i/\Same H1 H/\H D=some (.lst acc)) hz ⟨Nat.zero_le _,rfl,same_new hD _,upd_same⟩ (fun i acc H ⟨l,e,s,d⟩=>⟨d,?_,Same.seq s ha⟩) ?_ ?_
  · rw[e,List.length_take]
    omega
  · rintro i m x acc H hi ⟨l,e,s,d⟩ hm
    have hlt:=lt_of_some hi
    obtain⟨y,hy⟩:=some_of_lt (xs:=ys) (i:=i) (by omega)
    exact he i x y H hi hy s _ fun H' s'=>cstep hlt hm (s' _ _ d) ⟨hlt,by rw[e,take_snoc hy],same_upd hD (s.trans s'),upd_same⟩
  · rintro acc H ⟨l,e,s,d⟩
    rw[List.take_of_length_le (by omega)] at e
    exact hq H s (by rw[d,e])
noncomputable def keptBy (xs:List V) (ks:List Bool):List V:=(xs.zip ks).filterMap fun p=>if p.2=true then some p.1 else none
theorem kept_snoc {xs:List V} {ks:List Bool} {i:Nat} {x:V} {k:Bool} (hx:xs[i]?=some x) (hk:ks[i]?=some k):keptBy (xs.take (i+1)) (ks.take (i+1))=keptBy (xs.take i) (ks.take i)++(if k=true then [x] else []):=by
  have l1:=lt_of_some hx
  have l2:=lt_of_some hk
  unfold keptBy
  rw[take_snoc hx,take_snoc hk,List.zip_append (by rw[List.length_take,List.length_take];omega),List.filterMap_append]
  congr 1
  cases k <;> rfl
theorem kept_len (xs:List V) (ks:List Bool):(keptBy xs ks).length <= xs.length:=by
  unfold keptBy
  refine Nat.le_trans (List.length_filterMap_le _ _) ?_
  rw[List.length_zip]
  omega
theorem comp_lstK (ks:List Bool) (hz:xs.length < sizeLine) (hlen:ks.length=xs.length) (ha:SqL K H1 a xs) (hD:H1 D=none)
    (hc:∀ (i:Nat) (x:V) (k:Bool) (H:Hp),xs[i]?=some x->ks[i]?=some k->Same H1 H->∀ Q':Bool->Hp->Prop,(∀ H',Same H H'->Q' k H')->tc (some x::compS js σ) H Q')
    (he:∀ (x:V) (H:Hp) (Q':VK),Q' x H->te (some x::compS js σ) H Q')
    (hq:∀ H',Same H1 H'->H' D=some (.lst (keptBy xs ks))->Q (.ref D) H'):CompW (Itl K a) js tc te σ Q D H1:=by
  refine⟨fun i m acc H=>m=xs.length - i/\i <= xs.length/\acc=keptBy (xs.take i) (ks.take i)/\Same H1 H/\H D=some (.lst acc),⟨xs.length,by simp,Nat.zero_le _,rfl,same_new hD _,upd_same⟩,?_⟩
  rintro i m acc H ⟨hm,hi,e,s,d⟩
  have hla:acc.length <= i:=by
    rw[e]
    refine Nat.le_trans (kept_len _ _) ?_
    rw[List.length_take]
    omega
  refine⟨d,by omega,?_⟩
  by_cases hlt:i < xs.length
  · refine .inr ⟨⟨xs,xs[i],Same.seq s ha,by simp[hlt]⟩,fun x H' y=>?_⟩
    obtain⟨e1,y⟩:=y
    subst e1
    have hx:=y xs (Same.seq s ha)
    obtain⟨k,hk⟩:=some_of_lt (xs:=ks) (i:=i) (by omega)
    refine hc i x k _ hx hk s _ fun H' s'=>?_
    have step:=kept_snoc hx hk
    cases k with
    | true=>
      rw[if_pos rfl]
      rw[if_pos rfl] at step
      exact he x H' _ ⟨s' _ _ d,xs.length - (i+1),by omega,rfl,hlt,by rw[step,e],same_upd hD (s.trans s'),upd_same⟩
    | false=>
      rw[if_neg (by decide)]
      rw[if_neg (by decide),List.append_nil] at step
      exact⟨xs.length - (i+1),by omega,rfl,hlt,by rw[step,e],s.trans s',s' _ _ d⟩
  · have e0:i=xs.length:=by omega
    subst e0
    refine .inl ⟨⟨xs,Same.seq s ha,Nat.le_refl _⟩,hq H s ?_⟩
    rw[d,e,List.take_of_length_le (Nat.le_refl _),List.take_of_length_le (by omega)]
end
theorem cut_take {xs:List V} {k:Nat} (h:k <= xs.length):cutV xs none (some (k:Int))=xs.take k:=by
  unfold cutV
  rw[HT.sIx_none,HT.sIx_nat,Nat.min_eq_left h]
  simp
theorem cut_drop {xs:List V} {k:Nat} (h:k <= xs.length):cutV xs (some (k:Int)) none=xs.drop k:=by
  unfold cutV
  rw[HT.sIx_none,HT.sIx_nat,Nat.min_eq_left h]
  rw[List.take_of_length_le (by rw[List.length_drop];omega)]
theorem cut_take' (xs:List V) (k:Nat):cutV xs none (some (k:Int))=xs.take k:=by
  by_cases h:k <= xs.length
  · exact cut_take h
  · unfold cutV
    rw[HT.sIx_none,HT.sIx_nat,Nat.min_eq_right (by omega),List.drop_zero,Nat.sub_zero,List.take_of_length_le (Nat.le_refl _),List.take_of_length_le (by omega)]
theorem cut_drop' (xs:List V) (k:Nat):cutV xs (some (k:Int)) none=xs.drop k:=by
  by_cases h:k <= xs.length
  · exact cut_drop h
  · unfold cutV
    rw[HT.sIx_none,HT.sIx_nat,Nat.min_eq_right (by omega),List.drop_of_length_le (Nat.le_refl _),List.drop_of_length_le (by omega)]
    exact List.take_nil
theorem atI_head {α:Type} (x:α) (r:List α):atI (x::r) 0=some x:=atI_nat (j:=0) rfl
end L2
namespace L2
open PySem PySem.Spec PyProof.Rows
structure QE (X:Cx) (e:Expr) (t:TE):Prop where
  h:PE X e t
structure QA (X:Cx) (es:List Expr) (t:TA):Prop where
  h:PA X es t
structure QS (X:Cx) (st:Stmt) (t:TS):Prop where
  h:PS X st t
structure QSs (X:Cx) (b:List Stmt) (t:TS):Prop where
  h:PSs X b t
structure QT (X:Cx) (e:Expr) (t:TT):Prop where
  h:PT X e t
structure QW (X:Cx) (e:Expr) (t:TT):Prop where
  h:PW X e t
structure QI (X:Cx) (tg iter:Expr) (t:TI):Prop where
  h:PI X tg iter t
structure QG (X:Cx) (tg:Expr) (t:TG):Prop where
  h:PG X tg t
structure QGs (X:Cx) (ts:List Expr) (t:TGs):Prop where
  h:PGs X ts t
structure QO (X:Cx) (e:Option Expr) (t:TO):Prop where
  h:PO X e t
structure QIf (X:Cx) (ifs:List Expr) (t:TT):Prop where
  h:PIf X ifs t
theorem qss_cons {X:L2.Cx} {st:PySem.Stmt} {rest:List PySem.Stmt} {t:L2.TS} {u:L2.TS} (h1:QS X st t) (h2:QSs X rest u):QSs X (st::rest) (L2.tSeq t u):=⟨@L2.pss_cons _ _ _ _ _ h1.h h2.h⟩
theorem qss_one {X:L2.Cx} {st:PySem.Stmt} {t:L2.TS} (h1:QS X st t):QSs X [st] t:=⟨@L2.pss_one _ _ _ h1.h⟩
theorem qs_set {X:L2.Cx} {pos:PySem.Pos} {i:Nat} {x:PySem.Str} {e:PySem.Expr} {te:L2.TE} {pos':PySem.Pos} (hN:List.Nodup (L2.Cx.N X)) (hi:(L2.Cx.N X)[i]?=Option.some x) (hx:L2.Loc (PySem.Env.scope (L2.Cx.env X)) x) (he:QE X e te) (hs:PySem.swapsWith e (Option.some (PySem.Expr.Name x pos')) (PySem.Pos.line pos) (L2.Cx.env X)=Pure.pure Bool.false:=by rfl) (hf:L2.Cx.fn X x=Bool.true\/List.lookup x (PySem.Scope.names (PySem.Env.scope (L2.Cx.env X)))=Option.some PySem.NameKind.local:=by first | exact .inl rfl | exact .inr rfl | assumption):QS X (PySem.Stmt.Assign [PySem.Expr.Name x pos'] e pos) (L2.tAsg te (L2.gName i)):=⟨@L2.ps_set _ _ _ _ _ _ _ hN hi hx he.h hs hf⟩
theorem qs_asg {X:L2.Cx} {pos:PySem.Pos} {tg:PySem.Expr} {e:PySem.Expr} {te:L2.TE} {g:L2.TG} (he:QE X e te) (hg:QG X tg g) (hs:PySem.swapsWithSole [tg] e (PySem.Pos.line pos) (L2.Cx.env X)=Pure.pure Bool.false:=by rfl) (hw:PySem.swappedStores [tg] e (L2.Cx.env X)=Pure.pure Option.none:=by rfl) (h1:List.map (fun (x:Bool × (PySem.Value->PySem.Sem Unit))=>Prod.snd x) (PySem.assignEach [tg] (L2.Cx.env X))=[PySem.assign tg (L2.Cx.env X)]:=by rfl):QS X (PySem.Stmt.Assign [tg] e pos) (L2.tAsg te g):=⟨@L2.ps_asg _ _ _ _ _ _ he.h hg.h hs hw h1⟩
theorem qs_expr {X:L2.Cx} {e:PySem.Expr} {te:L2.TE} {pos:PySem.Pos} (he:QE X e te) (hs:PySem.swapsWith e Option.none (PySem.Pos.line pos) (L2.Cx.env X)=Pure.pure Bool.false:=by rfl):QS X (PySem.Stmt.Expr e pos) (L2.tDrop te):=⟨@L2.ps_expr _ _ _ _ he.h hs⟩
theorem qs_ret {X:L2.Cx} {e:PySem.Expr} {te:L2.TE} {pos:PySem.Pos} (he:QE X e te):QS X (PySem.Stmt.Return (Option.some e) pos) (L2.tRet te):=⟨@L2.ps_ret _ _ _ _ he.h⟩
theorem qs_if {X:L2.Cx} {t:L2.TS} {u:L2.TS} {pos:PySem.Pos} {c:PySem.Expr} {a:List PySem.Stmt} {b:List PySem.Stmt} {tc:L2.TT} (hc:QT X c tc) (ha:QSs X a t) (hb:QSs X b u):QS X (PySem.Stmt.If c a b pos) (L2.tIfS tc t u):=⟨@L2.ps_if _ _ _ _ _ _ _ _ hc.h ha.h hb.h⟩
theorem qs_for {X:L2.Cx} {tg:PySem.Expr} {iter:PySem.Expr} {body:List PySem.Stmt} {wi:L2.TI} {g:L2.TG} {tb:L2.TS} {pos:PySem.Pos} (hp:PySem.PassesOwn (PySem.model (L2.Cx.prog X) (L2.Cx.w X)) (L2.Cx.A X) (L2.Cx.env X) (L2.Cx.xe X)) (hc:L2.Cx.calm X=Bool.true) (hi:QI X tg iter wi) (hg:QG X tg g) (hb:QSs X body tb) (hs:∀ (x:PySem.Value),PySem.foldedSetIterable iter (L2.Cx.env X) x=Pure.pure x:=by intro _;rfl):QS X (PySem.Stmt.For tg iter body [] pos) (L2.tFor wi g tb):=⟨@L2.ps_for _ _ _ _ _ _ _ _ hp hc hi.h hg.h hb.h hs⟩
theorem qs_while {X:L2.Cx} {pos:PySem.Pos} {c:PySem.Expr} {body:List PySem.Stmt} {tc:L2.TT} {tb:L2.TS} (hp:PySem.PassesOwn (PySem.model (L2.Cx.prog X) (L2.Cx.w X)) (L2.Cx.A X) (L2.Cx.env X) (L2.Cx.xe X)) (hc:QT X c tc) (hb:QSs X body tb):QS X (PySem.Stmt.While c body [] pos) (L2.tWhile tc tb):=⟨@L2.ps_while _ _ _ _ _ _ hp hc.h hb.h⟩
theorem qe_op {X:L2.Cx} {a:PySem.Expr} {b:PySem.Expr} {ta:L2.TE} {tb:L2.TE} {pos:PySem.Pos} {op:PySem.Operator} {r:L2.R2} (ho:L2.OpR X (PySem.binaryOp op) r) (ha:QE X a ta) (hb:QE X b tb):QE X (PySem.Expr.BinOp a op b pos) (L2.tOp r ta tb):=⟨@L2.pe_op _ _ _ _ _ _ _ _ ho ha.h hb.h⟩
theorem qe_un {X:L2.Cx} {a:PySem.Expr} {ta:L2.TE} {pos:PySem.Pos} {op:PySem.UnaryOp} {r:L2.V->L2.Hp->L2.VK->Prop} (ho:L2.UnR X (PySem.unaryOp op) r) (ha:QE X a ta):QE X (PySem.Expr.UnaryOp op a pos) (L2.tUn r ta):=⟨@L2.pe_un _ _ _ _ _ _ ho ha.h⟩
theorem qe_not {X:L2.Cx} {a:PySem.Expr} {ta:L2.TE} {pos:PySem.Pos} (ha:QE X a ta):QE X (PySem.Expr.UnaryOp PySem.UnaryOp.Not a pos) (L2.tNotV ta):=⟨@L2.pe_not _ _ _ _ ha.h⟩
theorem qe_one {X:L2.Cx} {a:PySem.Expr} {pos:PySem.Pos} {op:PySem.BoolOp} {t:L2.TE} (h:QE X a t):QE X (PySem.Expr.BoolOp op [a] pos) t:=⟨@L2.pe_one _ _ _ _ _ h.h⟩
theorem qe_and {X:L2.Cx} {a:PySem.Expr} {b:PySem.Expr} {ta:L2.TE} {tb:L2.TE} {pos:PySem.Pos} {rest:List PySem.Expr} (ha:QE X a ta) (hb:QE X (PySem.Expr.BoolOp PySem.BoolOp.And (b::rest) pos) tb):QE X (PySem.Expr.BoolOp PySem.BoolOp.And (a::b::rest) pos) (L2.tAndV ta tb):=⟨@L2.pe_and _ _ _ _ _ _ _ ha.h hb.h⟩
theorem qe_or {X:L2.Cx} {a:PySem.Expr} {b:PySem.Expr} {ta:L2.TE} {tb:L2.TE} {pos:PySem.Pos} {rest:List PySem.Expr} (ha:QE X a ta) (hb:QE X (PySem.Expr.BoolOp PySem.BoolOp.Or (b::rest) pos) tb):QE X (PySem.Expr.BoolOp PySem.BoolOp.Or (a::b::rest) pos) (L2.tOrV ta tb):=⟨@L2.pe_or _ _ _ _ _ _ _ ha.h hb.h⟩
theorem qe_cmpR {X:L2.Cx} {a:PySem.Expr} {b:PySem.Expr} {ta:L2.TE} {tb:L2.TE} {pos:PySem.Pos} {op:PySem.CmpOp} {r:L2.R2} (ho:L2.OpR X (PySem.compareOp op) r) (ha:QE X a ta) (hb:QE X b tb) (hm:PySem.behindInMarks op b=Bool.false):QE X (PySem.Expr.Compare a [op] [b] pos) (L2.tOp r ta tb):=⟨@L2.pe_cmpR _ _ _ _ _ _ _ _ ho ha.h hb.h hm⟩
theorem qe_lst {X:L2.Cx} {es:List PySem.Expr} {t:L2.TA} {pos:PySem.Pos} (h:QA X es t):QE X (PySem.Expr.List es pos) (L2.tLst t):=⟨@L2.pe_lst _ _ _ _ h.h⟩
theorem qe_tup {X:L2.Cx} {es:List PySem.Expr} {t:L2.TA} {pos:PySem.Pos} {x1:Nat} (h:QA X es t):QE X (PySem.Expr.Tuple es x1 pos) (L2.tTup t):=⟨@L2.pe_tup _ _ _ _ _ h.h⟩
theorem qe_slice {X:L2.Cx} {e:PySem.Expr} {te:L2.TE} {lo:Option PySem.Expr} {hi:Option PySem.Expr} {tl:L2.TO} {th:L2.TO} {pos:PySem.Pos} {p2:PySem.Pos} {r:L2.V->Option Int->Option Int->L2.Hp->L2.VK->Prop} (hr:L2.SlR X r) (he:QE X e te) (hl:QO X lo tl) (hu:QO X hi th):QE X (PySem.Expr.Subscript e (PySem.Expr.Slice lo hi Option.none p2) pos) (L2.tSl r te tl th):=⟨@L2.pe_slice _ _ _ _ _ _ _ _ _ _ hr he.h hl.h hu.h⟩
theorem qe_ix {X:L2.Cx} {a:PySem.Expr} {b:PySem.Expr} {ta:L2.TE} {tb:L2.TE} {pos:PySem.Pos} {r:L2.R2} (hr:L2.IxR X r) (ha:QE X a ta) (hb:QE X b tb) (hs:L2.PlainIx b):QE X (PySem.Expr.Subscript a b pos) (L2.tOp r ta tb):=⟨@L2.pe_ix _ _ _ _ _ _ _ hr ha.h hb.h hs⟩
theorem qe_comp {X:L2.Cx} {elt:PySem.Expr} {iter:PySem.Expr} {ifs:List PySem.Expr} {sc:PySem.Scope} {pos:PySem.Pos} {px:PySem.Pos} {t:PySem.Str} {ys:List PySem.Str} {js:List Nat} {wi:L2.TI} {tc:L2.TT} {te:L2.TE} (hc:L2.Cx.calm X=Bool.true) (hck:L2.compChk (L2.Cx.N X) (PySem.Env.scope (L2.Cx.env X)) sc t ys js=Bool.true) (hi:QI X (PySem.Expr.Name t px) iter wi) (hf:∀ (cl:List (PySem.Str × PySem.Addr)) (C:PySem.Addr) (s:PySem.Shared) (H:L2.Hp) (fp:List PySem.Addr),QIf (L2.Cx.comp X sc cl C (t::ys) s H fp) ifs tc) (he:∀ (cl:List (PySem.Str × PySem.Addr)) (C:PySem.Addr) (s:PySem.Shared) (H:L2.Hp) (fp:List PySem.Addr),QE (L2.Cx.comp X sc cl C (t::ys) s H fp) elt te) (hs:∀ (x:PySem.Value),PySem.foldedSetIterable iter (L2.Cx.env X) x=Pure.pure x:=by intro _;rfl):QE X (PySem.Expr.ListComp elt [{ target:=PySem.Expr.Name t px,iter:=iter,ifs:=ifs,is_async:=0 }] sc pos) (L2.tComp wi js tc te):=⟨@L2.pe_comp _ _ _ _ _ _ _ _ _ _ _ _ _ hc hck hi.h (fun cl C s H fp=>(hf cl C s H fp).h) (fun cl C s H fp=>(he cl C s H fp).h) hs⟩
theorem qe_call {X:L2.Cx} {CX:L2.CXT} {k:Nat} {f:PySem.Addr} {fd:PySem.FuncData} {ps:List PySem.Str} {sp:L2.Sp} {dvs:List L2.V} {ds:List PySem.Value} {E:L2.XK} {x:PySem.Str} {p:PySem.Pos} {pos:PySem.Pos} {e:PySem.Expr} {es:List PySem.Expr} {t:L2.TA} (F:L2.FnOk (L2.Cx.prog X) (L2.Cx.w X) (L2.Cx.K X) (L2.Cx.mg X) (L2.Cx.base X) CX k f fd ps sp) (hr:L2.Room k (L2.Cx.A X)) (hg:L2.Gl X x) (hm:L2.Cx.mg X x=Option.some (PySem.Value.ref f)) (hk:PySem.W.keepIn (L2.Cx.K X) (PySem.Value.ref f)=Bool.true) (hb:L2.Binds (L2.Cx.K X) fd ps ds) (hd:L2.Vals dvs ds) (hx:L2.Passes CX X E) (ha:QA X (e::es) t) (hdb:(x == PySem.Str.ofString "__debug__")=Bool.false:=by decide) (he:PySem.starEach (e::es) (L2.Cx.env X)=(Bool.false,PySem.eval e (L2.Cx.env X))::PySem.starEach es (L2.Cx.env X):=by rfl) (hpl:(List.any (PySem.backTo pos (PySem.starEach es (L2.Cx.env X))) fun (x:Bool × PySem.Sem PySem.Value)=>Prod.fst x)=Bool.false:=by rfl):QE X (PySem.Expr.Call (PySem.Expr.Name x p) (e::es) [] pos) (L2.tCall sp dvs E t):=⟨@L2.pe_call _ _ _ _ _ _ _ _ _ _ _ _ _ _ _ _ F hr hg hm hk hb hd hx ha.h hdb he hpl⟩
theorem qe_callB {X:L2.Cx} {x:PySem.Str} {p:PySem.Pos} {pos:PySem.Pos} {e:PySem.Expr} {es:List PySem.Expr} {t:L2.TA} {id:String} {r:List L2.V->L2.Hp->L2.VK->Prop} (hc:L2.CallR X (PySem.Value.builtin id) r) (hg:L2.Gl X x) (hm:L2.Cx.mg X x=Option.none) (hv:PySem.bootBuiltins x=Option.some (PySem.Value.builtin id)) (ha:QA X (e::es) t) (hn:x ≠ PySem.Str.ofString "__name__":=by decide) (hdb:(x == PySem.Str.ofString "__debug__")=Bool.false:=by decide) (he:PySem.starEach (e::es) (L2.Cx.env X)=(Bool.false,PySem.eval e (L2.Cx.env X))::PySem.starEach es (L2.Cx.env X):=by rfl) (hpl:(List.any (PySem.backTo pos (PySem.starEach es (L2.Cx.env X))) fun (x:Bool × PySem.Sem PySem.Value)=>Prod.fst x)=Bool.false:=by rfl):QE X (PySem.Expr.Call (PySem.Expr.Name x p) (e::es) [] pos) (L2.tCB r t):=⟨@L2.pe_callB _ _ _ _ _ _ _ _ _ hc hg hm hv ha.h hn hdb he hpl⟩
theorem qe_callTy {X:L2.Cx} {x:PySem.Str} {p:PySem.Pos} {pos:PySem.Pos} {e:PySem.Expr} {es:List PySem.Expr} {t:L2.TA} {T:String} {r:List L2.V->L2.Hp->L2.VK->Prop} (hc:L2.CallR X (PySem.Value.type T) r) (hg:L2.Gl X x) (hm:L2.Cx.mg X x=Option.none) (hv:PySem.bootBuiltins x=Option.some (PySem.Value.type T)) (ha:QA X (e::es) t) (hn:x ≠ PySem.Str.ofString "__name__":=by decide) (hdb:(x == PySem.Str.ofString "__debug__")=Bool.false:=by decide) (he:PySem.starEach (e::es) (L2.Cx.env X)=(Bool.false,PySem.eval e (L2.Cx.env X))::PySem.starEach es (L2.Cx.env X):=by rfl) (hpl:(List.any (PySem.backTo pos (PySem.starEach es (L2.Cx.env X))) fun (x:Bool × PySem.Sem PySem.Value)=>Prod.fst x)=Bool.false:=by rfl):QE X (PySem.Expr.Call (PySem.Expr.Name x p) (e::es) [] pos) (L2.tCB r t):=⟨@L2.pe_callTy _ _ _ _ _ _ _ _ _ hc hg hm hv ha.h hn hdb he hpl⟩
theorem qe_bm {X:L2.Cx} {o:PySem.Expr} {e:PySem.Expr} {es:List PySem.Expr} {to:L2.TE} {t:L2.TA} {name:PySem.Str} {apos:PySem.Pos} {cpos:PySem.Pos} {T:String} {id:String} {r:L2.V->List L2.V->L2.Hp->L2.VK->Prop} (pa:PySem.PlainAttrs T) (slot:PySem.Slot T name id) (hty:PySem.typeOf (PySem.Value.builtin id)=Pure.pure (PySem.Value.type "method_descriptor")) (hm:L2.MtR X id r) (ho:QE X o to) (ha:QA X (e::es) t) (hbase:PySem.attributeBase o name (L2.Cx.env X) (PySem.eval o (L2.Cx.env X))=PySem.eval o (L2.Cx.env X):=by rfl) (hfew:(((List.all (PySem.backTo cpos (PySem.starEach (e::es) (L2.Cx.env X))) fun (x:Bool × PySem.Sem PySem.Value)=>!Prod.fst x) && List.all (PySem.backToKw cpos (PySem.keywordEach [] (L2.Cx.env X))) fun (x:Option PySem.Str × PySem.Sem PySem.Value)=>Option.isSome (Prod.fst x)) && Decidable.decide ((List.length (e::es)+List.length ([]:List PySem.Keyword)+if List.isEmpty ([]:List PySem.Keyword)=Bool.true then 0 else 1) < 30))=Bool.true:=by rfl) (hline:(PySem.Pos.endLine apos == PySem.Pos.line cpos)=Bool.true:=by rfl) (hs:PySem.starEach (e::es) (L2.Cx.env X)=(Bool.false,PySem.eval e (L2.Cx.env X))::PySem.starEach es (L2.Cx.env X):=by rfl) (hplain:(List.any (PySem.backTo cpos (PySem.starEach es (L2.Cx.env X))) fun (x:Bool × PySem.Sem PySem.Value)=>Prod.fst x)=Bool.false:=by rfl):QE X (PySem.Expr.Call (PySem.Expr.Attribute o name apos) (e::es) [] cpos) (L2.tBM (L2.Cx.K X) T r to t):=⟨@L2.pe_bm _ _ _ _ _ _ _ _ _ _ _ _ pa slot hty hm ho.h ha.h hbase hfew hline hs hplain⟩
theorem qe_bm0 {X:L2.Cx} {o:PySem.Expr} {to:L2.TE} {name:PySem.Str} {apos:PySem.Pos} {cpos:PySem.Pos} {T:String} {id:String} {r:L2.V->List L2.V->L2.Hp->L2.VK->Prop} (pa:PySem.PlainAttrs T) (slot:PySem.Slot T name id) (hty:PySem.typeOf (PySem.Value.builtin id)=Pure.pure (PySem.Value.type "method_descriptor")) (hm:L2.MtR X id r) (ho:QE X o to) (hbase:PySem.attributeBase o name (L2.Cx.env X) (PySem.eval o (L2.Cx.env X))=PySem.eval o (L2.Cx.env X):=by rfl) (hline:(PySem.Pos.endLine apos == PySem.Pos.line cpos)=Bool.true:=by rfl):QE X (PySem.Expr.Call (PySem.Expr.Attribute o name apos) [] [] cpos) (L2.tBM0 (L2.Cx.K X) T r to):=⟨@L2.pe_bm0 _ _ _ _ _ _ _ _ _ pa slot hty hm ho.h hbase hline⟩
theorem qt_not {X:L2.Cx} {a:PySem.Expr} {pos:PySem.Pos} {tA:L2.TT} (ha:QT X a tA):QT X (PySem.Expr.UnaryOp PySem.UnaryOp.Not a pos) (L2.tNot tA):=⟨@L2.pt_not _ _ _ _ ha.h⟩
theorem qt_val {X:L2.Cx} {e:PySem.Expr} {t:L2.TE} (h:QE X e t) (he:∀ (whole:PySem.Sem PySem.Value),PySem.isTrue e (L2.Cx.env X) whole=(do let v <- whole;PySem.standAt (PySem.Expr.pos e);PySem.holding [v] (PySem.truthy v)):=by intro _;rfl):QT X e (L2.tB t):=⟨@L2.pt_val _ _ _ h.h he⟩
theorem qt_cmpR {X:L2.Cx} {a:PySem.Expr} {b:PySem.Expr} {ta:L2.TE} {tb:L2.TE} {pos:PySem.Pos} {op:PySem.CmpOp} {r:L2.R2} (ho:L2.OpR X (PySem.compareOp op) r) (ha:QE X a ta) (hb:QE X b tb) (hm:PySem.behindInMarks op b=Bool.false):QT X (PySem.Expr.Compare a [op] [b] pos) (L2.tTest (L2.tOp r ta tb)):=⟨@L2.pt_cmpR _ _ _ _ _ _ _ _ ho ha.h hb.h hm⟩
theorem qw_and {X:L2.Cx} {a:PySem.Expr} {b:PySem.Expr} {pos:PySem.Pos} {tA:L2.TT} {tB':L2.TT} {rest:List PySem.Expr} (ha:QT X a tA) (hb:QW X (PySem.Expr.BoolOp PySem.BoolOp.And (b::rest) pos) tB'):QW X (PySem.Expr.BoolOp PySem.BoolOp.And (a::b::rest) pos) (L2.tAnd tA tB'):=⟨@L2.pw_and _ _ _ _ _ _ _ ha.h hb.h⟩
theorem qw_or {X:L2.Cx} {a:PySem.Expr} {b:PySem.Expr} {pos:PySem.Pos} {tA:L2.TT} {tB':L2.TT} {rest:List PySem.Expr} (ha:QT X a tA) (hb:QW X (PySem.Expr.BoolOp PySem.BoolOp.Or (b::rest) pos) tB'):QW X (PySem.Expr.BoolOp PySem.BoolOp.Or (a::b::rest) pos) (L2.tOr tA tB'):=⟨@L2.pw_or _ _ _ _ _ _ _ ha.h hb.h⟩
theorem qw_and1 {X:L2.Cx} {a:PySem.Expr} {pos:PySem.Pos} {tA:L2.TT} (ha:QT X a tA):QW X (PySem.Expr.BoolOp PySem.BoolOp.And [a] pos) tA:=⟨@L2.pw_and1 _ _ _ _ ha.h⟩
theorem qw_or1 {X:L2.Cx} {a:PySem.Expr} {pos:PySem.Pos} {tA:L2.TT} (ha:QT X a tA):QW X (PySem.Expr.BoolOp PySem.BoolOp.Or [a] pos) tA:=⟨@L2.pw_or1 _ _ _ _ ha.h⟩
theorem qw_pt {X:L2.Cx} {e:PySem.Expr} {t:L2.TT} (h:QW X e t):QT X e t:=⟨@L2.PW.pt _ _ _ h.h⟩
theorem qo_some {X:L2.Cx} {e:PySem.Expr} {te:L2.TE} (h:QE X e te):QO X (Option.some e) (L2.tPart te):=⟨@L2.po_some _ _ _ h.h⟩
theorem qi_list {X:L2.Cx} {tg:PySem.Expr} {l:PySem.Expr} {tl:L2.TE} (hl:QE X l tl):QI X tg l (L2.iList (L2.Cx.K X) tl):=⟨@L2.pi_list _ _ _ _ hl.h⟩
theorem qi_tup {X:L2.Cx} {tg:PySem.Expr} {l:PySem.Expr} {tl:L2.TE} (hl:QE X l tl):QI X tg l (L2.iTup (L2.Cx.K X) tl):=⟨@L2.pi_tup _ _ _ _ hl.h⟩
theorem qi_range1 {X:L2.Cx} {tg:PySem.Expr} {a:PySem.Expr} {ta:L2.TA} {p:PySem.Pos} {pos:PySem.Pos} (hg:L2.Gl X (PySem.Str.ofString "range")) (hm:L2.Cx.mg X (PySem.Str.ofString "range")=Option.none) (ha:QA X [a] ta) (hs:PySem.starEach [a] (L2.Cx.env X)=[(Bool.false,PySem.eval a (L2.Cx.env X))]:=by rfl):QI X tg (PySem.Expr.Call (PySem.Expr.Name (PySem.Str.ofString "range") p) [a] [] pos) (L2.iRng1 ta):=⟨@L2.pi_range1 _ _ _ _ _ _ hg hm ha.h hs⟩
theorem qg_name {X:L2.Cx} {pos:PySem.Pos} {i:Nat} {x:PySem.Str} (hN:List.Nodup (L2.Cx.N X)) (hi:(L2.Cx.N X)[i]?=Option.some x) (hx:L2.Loc (PySem.Env.scope (L2.Cx.env X)) x) (hf:L2.Cx.fn X x=Bool.true\/List.lookup x (PySem.Scope.names (PySem.Env.scope (L2.Cx.env X)))=Option.some PySem.NameKind.local:=by first | exact .inl rfl | exact .inr rfl | assumption):QG X (PySem.Expr.Name x pos) (L2.gName i):=⟨@L2.pg_name _ _ _ _ hN hi hx hf⟩
theorem qg_sub {X:L2.Cx} {pos:PySem.Pos} {o:PySem.Expr} {i:PySem.Expr} {to:L2.TE} {ti:L2.TE} {t:L2.TSet} (ho:QE X o to) (hi:QE X i ti) (hs:L2.PSet X t) (ha:∀ (v:PySem.Value),PySem.assign (PySem.Expr.Subscript o i pos) (L2.Cx.env X) v=(do let ov <- PySem.holding [v] (PySem.eval o (L2.Cx.env X));let iv <- PySem.holding [v,ov] (PySem.eval i (L2.Cx.env X));PySem.standAt pos;PySem.holding [v,ov,iv] (PySem.setItem ov iv v);PySem.release [v,ov,iv] []):=by intro _;rfl):QG X (PySem.Expr.Subscript o i pos) (L2.gSub to ti t):=⟨@L2.pg_sub _ _ _ _ _ _ _ ho.h hi.h hs ha⟩
theorem qg_tup {X:L2.Cx} {pos:PySem.Pos} {es:List PySem.Expr} {k:Nat} {t:L2.TGs} {n:Nat} (hc:L2.Cx.calm X=Bool.true) (h:QGs X es t) (hn:List.length (PySem.assignEach es (L2.Cx.env X))=n:=by rfl) (hst:List.findIdx? (fun (x:Bool × (PySem.Value->PySem.Sem Unit))=>Prod.fst x) (PySem.assignEach es (L2.Cx.env X))=Option.none:=by rfl):QG X (PySem.Expr.Tuple es k pos) (L2.gTup (L2.Cx.K X) n t):=⟨@L2.pg_tup _ _ _ _ _ _ hc h.h hn hst⟩
theorem qgs_cons {X:L2.Cx} {e:PySem.Expr} {es:List PySem.Expr} {t:L2.TG} {u:L2.TGs} (h1:QG X e t) (h2:QGs X es u) (hs:List.map (fun (x:Bool × (PySem.Value->PySem.Sem Unit))=>Prod.snd x) (PySem.assignEach (e::es) (L2.Cx.env X))=PySem.assign e (L2.Cx.env X)::List.map (fun (x:Bool × (PySem.Value->PySem.Sem Unit))=>Prod.snd x) (PySem.assignEach es (L2.Cx.env X)):=by rfl):QGs X (e::es) (L2.gCons t u):=⟨@L2.pgs_cons _ _ _ _ _ h1.h h2.h hs⟩
theorem qif_one {X:L2.Cx} {c:PySem.Expr} {t:L2.TT} (h:QT X c t):QIf X [c] t:=⟨@L2.pif_one _ _ _ h.h⟩
theorem qaT {X:L2.Cx} {es:List PySem.Expr} {te:L2.TE} {t:L2.TA} {a:List PySem.Expr} {k:Nat} {p:PySem.Pos} (ha:QE X (PySem.Expr.Tuple a k p) te) (hr:QA X es t):QA X (PySem.Expr.Tuple a k p::es) (L2.tCons te t):=⟨@L2.paT _ _ _ _ _ _ _ ha.h hr.h⟩
theorem qaL {X:L2.Cx} {es:List PySem.Expr} {te:L2.TE} {t:L2.TA} {a:List PySem.Expr} {p:PySem.Pos} (ha:QE X (PySem.Expr.List a p) te) (hr:QA X es t):QA X (PySem.Expr.List a p::es) (L2.tCons te t):=⟨@L2.paL _ _ _ _ _ _ ha.h hr.h⟩
theorem qaC {X:L2.Cx} {es:List PySem.Expr} {te:L2.TE} {t:L2.TA} {c:PySem.Const} {k:Nat} {p:PySem.Pos} (ha:QE X (PySem.Expr.Constant c k p) te) (hr:QA X es t):QA X (PySem.Expr.Constant c k p::es) (L2.tCons te t):=⟨@L2.paC _ _ _ _ _ _ _ ha.h hr.h⟩
theorem qaN {X:L2.Cx} {es:List PySem.Expr} {te:L2.TE} {t:L2.TA} {x:PySem.Str} {p:PySem.Pos} (ha:QE X (PySem.Expr.Name x p) te) (hr:QA X es t):QA X (PySem.Expr.Name x p::es) (L2.tCons te t):=⟨@L2.paN _ _ _ _ _ _ ha.h hr.h⟩
theorem qaB {X:L2.Cx} {es:List PySem.Expr} {te:L2.TE} {t:L2.TA} {l:PySem.Expr} {r:PySem.Expr} {o:PySem.Operator} {p:PySem.Pos} (ha:QE X (PySem.Expr.BinOp l o r p) te) (hr:QA X es t):QA X (PySem.Expr.BinOp l o r p::es) (L2.tCons te t):=⟨@L2.paB _ _ _ _ _ _ _ _ ha.h hr.h⟩
theorem qaS {X:L2.Cx} {es:List PySem.Expr} {te:L2.TE} {t:L2.TA} {v:PySem.Expr} {i:PySem.Expr} {p:PySem.Pos} (ha:QE X (PySem.Expr.Subscript v i p) te) (hr:QA X es t):QA X (PySem.Expr.Subscript v i p::es) (L2.tCons te t):=⟨@L2.paS _ _ _ _ _ _ _ ha.h hr.h⟩
theorem qaK {X:L2.Cx} {es:List PySem.Expr} {te:L2.TE} {t:L2.TA} {f:PySem.Expr} {a:List PySem.Expr} {k:List PySem.Keyword} {p:PySem.Pos} (ha:QE X (PySem.Expr.Call f a k p) te) (hr:QA X es t):QA X (PySem.Expr.Call f a k p::es) (L2.tCons te t):=⟨@L2.paK _ _ _ _ _ _ _ _ ha.h hr.h⟩
theorem qaM {X:L2.Cx} {es:List PySem.Expr} {te:L2.TE} {t:L2.TA} {l:PySem.Expr} {o:List PySem.CmpOp} {c:List PySem.Expr} {p:PySem.Pos} (ha:QE X (PySem.Expr.Compare l o c p) te) (hr:QA X es t):QA X (PySem.Expr.Compare l o c p::es) (L2.tCons te t):=⟨@L2.paM _ _ _ _ _ _ _ _ ha.h hr.h⟩
theorem qaE {X:L2.Cx} {es:List PySem.Expr} {te:L2.TE} {t:L2.TA} {e:PySem.Expr} {g:List PySem.Comprehension} {s:PySem.Scope} {p:PySem.Pos} (ha:QE X (PySem.Expr.ListComp e g s p) te) (hr:QA X es t):QA X (PySem.Expr.ListComp e g s p::es) (L2.tCons te t):=⟨@L2.paE _ _ _ _ _ _ _ _ ha.h hr.h⟩
theorem qaJ {X:L2.Cx} {es:List PySem.Expr} {te:L2.TE} {t:L2.TA} {v:List PySem.Expr} {p:PySem.Pos} (ha:QE X (PySem.Expr.JoinedStr v p) te) (hr:QA X es t):QA X (PySem.Expr.JoinedStr v p::es) (L2.tCons te t):=⟨@L2.paJ _ _ _ _ _ _ ha.h hr.h⟩
theorem qe_maxD {X:L2.Cx} {e:PySem.Expr} {te:L2.TE} {n:Int} {j:Nat} {p:PySem.Pos} {pos:PySem.Pos} {kp:PySem.Pos} {cp:PySem.Pos} (hc:L2.Cx.calm X=Bool.true) (hg:L2.Gl X (PySem.Str.ofString "max")) (hm:L2.Cx.mg X (PySem.Str.ofString "max")=Option.none) (he:QE X e te) (hst:PySem.starEach [e] (L2.Cx.env X)=[(Bool.false,PySem.eval e (L2.Cx.env X))]:=by rfl):QE X (PySem.Expr.Call (PySem.Expr.Name (PySem.Str.ofString "max") p) [e] [{ arg:=Option.some (PySem.Str.ofString "default"),value:=PySem.Expr.Constant (PySem.Const.int n) j cp,pos:=kp }] pos) (L2.tMaxD (L2.Cx.K X) te n):=⟨@L2.pe_maxD _ _ _ _ _ _ _ _ _ hc hg hm he.h hst⟩
theorem qv {X:L2.Cx} (i:Nat) {x:PySem.Str} {pos:PySem.Pos} (hN:(L2.Cx.N X)[i]?=Option.some x:=by rfl) (hv:L2.Vis (PySem.Env.scope (L2.Cx.env X)) x:=by first | exact Or.inl rfl | exact Or.inr (Or.inl rfl) | exact Or.inr (Or.inr rfl)) (hd:(x == PySem.Str.ofString "__debug__")=Bool.false:=by decide) (hcd:(x == PySem.Str.ofString "__classdict__")=Bool.false:=by decide):QE X (PySem.Expr.Name x pos) (L2.tVar i):=⟨@L2.pv _ i _ _ hN hv hd hcd⟩
theorem qe_int {X:L2.Cx} {i:Int} {j:Nat} {pos:PySem.Pos}:QE X (PySem.Expr.Constant (PySem.Const.int i) j pos) (L2.tC (L2.V.int i)):=⟨@L2.pe_int _ _ _ _⟩
theorem qe_str {X:L2.Cx} {x:PySem.Str} {j:Nat} {pos:PySem.Pos}:QE X (PySem.Expr.Constant (PySem.Const.str x) j pos) (L2.tC (L2.V.str x)):=⟨@L2.pe_str _ _ _ _⟩
theorem qe_bl {X:L2.Cx} {b:Bool} {j:Nat} {pos:PySem.Pos}:QE X (PySem.Expr.Constant (PySem.Const.bool b) j pos) (L2.tC (L2.V.bl b)):=⟨@L2.pe_bl _ _ _ _⟩
theorem qe_non {X:L2.Cx} {j:Nat} {pos:PySem.Pos}:QE X (PySem.Expr.Constant PySem.Const.none j pos) (L2.tC L2.V.non):=⟨@L2.pe_non _ _ _⟩
theorem qe_glob {X:L2.Cx} {x:PySem.Str} {v:L2.V} {u:PySem.Value} {pos:PySem.Pos} (hg:L2.Gl X x) (hm:L2.Cx.mg X x=Option.some u) (r:L2.RelV v u) (hd:(x == PySem.Str.ofString "__debug__")=Bool.false:=by decide):QE X (PySem.Expr.Name x pos) (L2.tC v):=⟨@L2.pe_glob _ _ _ _ _ hg hm r hd⟩
theorem qe_bltn {X:L2.Cx} {x:PySem.Str} {v:L2.V} {u:PySem.Value} {pos:PySem.Pos} (hg:L2.Gl X x) (hm:L2.Cx.mg X x=Option.none) (hv:PySem.bootBuiltins x=Option.some u) (r:L2.RelV v u) (hn:x ≠ PySem.Str.ofString "__name__":=by decide) (hd:(x == PySem.Str.ofString "__debug__")=Bool.false:=by decide):QE X (PySem.Expr.Name x pos) (L2.tC v):=⟨@L2.pe_bltn _ _ _ _ _ hg hm hv r hn hd⟩
theorem qss_nil {X:L2.Cx}:QSs X [] L2.tNext:=⟨@L2.pss_nil _⟩
theorem qa_nil {X:L2.Cx}:QA X [] L2.tNil:=⟨@L2.pa_nil _⟩
theorem qo_none {X:L2.Cx}:QO X Option.none L2.tNoPart:=⟨@L2.po_none _⟩
theorem qif_nil {X:L2.Cx}:QIf X [] L2.tYes:=⟨@L2.pif_nil _⟩
theorem qgs_nil {X:L2.Cx}:QGs X [] L2.gNil:=⟨@L2.pgs_nil _⟩
section
variable {P:Program} {w:World} {K:PySem.W.Frag} {mg:Str->Option Value} {base:Heap}
theorem Fun.okQ {x qual:Str} {st:Stmt} {f:Addr} {fd:FuncData} {N ps:List Str} {k:Nat} {sp:Sp} (F:Fun K x qual st f fd) (S:FnScope N ps (defScope st)) (len:∀ vs H Q E,sp vs H Q E->vs.length=ps.length)
    (hbody:∀ (cdv:Value) (A:Around) (outer:List Env) (s:Shared) (H:Hp) (vs:List V) (Q:VK) (E:XK),Room k (A.deeper (envOfC qual (defScope st) s.heap.objs.size f cdv))->sp vs H Q E ->
      ∃ t,QSs (cxOf CX0 P w K mg base N qual (defScope st) f cdv A outer s H E).nox (defBody st) t/\t { nx:=fun _ H'=>Q .non H',rt:=Q } (start N vs) H):FnOk P w K mg base CX0 (k+1) f fd ps sp:=
  F.ok S len fun cdv A outer s H vs Q E hr h=>let ⟨t,h1,h2⟩:=hbody cdv A outer s H vs Q E hr h;⟨t,h1.h,h2⟩
end
end L2
namespace L2
open PySem PySem.Spec PyProof.Rows
abbrev vbm:List Value:=[.type "ValueError",.type "Exception",.type "BaseException",.type "object"]
abbrev ExcC (K:PySem.W.Frag) (C:Addr):Prop:=PySem.W.excIn K C vbm "ValueError.__new__" = true
theorem exc_obj {K:PySem.W.Frag} {h:Heap} {C:Addr} {bmB:List Value} {newId:String} (X:K.In h) (q:PySem.W.excIn K C bmB newId=true) :
    ∃ bm N nm qn bs hdct sn sub ab col dd k0 k1 k2 k3 k5 mN,h.get? C=some (excClassObj nm qn C N bs bm hdct sn sub ab col dd k0 k1 k2 k3 k5 newId)/\h.Ns N mN/\mN "__init__" = none/\OwnTail h bmB bm /\
      ∀ v b,PySem.W.mroIn K C v=some b->(Value.ref C::bm).contains v=b:=by
  unfold PySem.W.excIn at q
  split at q
  · rename_i dd cd sl ho
    split at q
    · rename_i C' bm k0 k1 k2 k3 n k5 hm hs
      simp only[Bool.and_eq_true,beq_iff_eq,Bool.not_eq_true'] at q
      obtain⟨⟨⟨⟨⟨rfl,rfl⟩,hdel⟩,ht⟩,hok⟩,hni⟩:=q
      obtain⟨nm,bs,mro,ns,qn,hd,sn,sub,ab,col,del⟩:=cd
      dsimp only at hm hdel hok hni
      subst hm hdel
      have hsl:sl = #[k0,k1,k2,k3,some (.builtin n),k5]:=by
        obtain⟨l⟩:=sl
        simp only at hs
        rw[hs]
      subst hsl
      refine⟨bm,ns,nm,qn,bs,hd,sn,sub,ab,col,dd,k0,k1,k2,k3,k5,_,X _ _ ho,.of_isNs (PySem.W.isNs_of_in X hok),PySem.W.nsMap_none_of_in X hok hni,PySem.W.tail_of_in X ht,fun v b e=>?_⟩
      unfold PySem.W.mroIn PySem.W.clsIn at e
      rw[ho] at e
      simpa using e
    · cases q
  · cases q
theorem excMatches_own {M:Model} {A:Around} {E:Value->Shared->Prop} {K:PySem.W.Frag} {h:Heap} {g:Array GenState} {d:Drawn} {t:Nat} {os:OsState} {e C D:Addr} {oe:Obj} {b:Bool} {Q:Bool->Shared->Prop} (X:K.In h)
    (hC:ExcC K C) (hD:ExcC K D) (he:h.get? e=some oe) (hcls:oe.cls=.ref C) (hm:PySem.W.mroIn K C (.ref D)=some b) (hq:Q b ⟨h,g,d,t,os⟩):wpAny M A (excMatches (.ref e) (.ref D)) Q E ⟨h,g,d,t,os⟩:=by
  obtain⟨bm,N,nm,qn,bs,hdct,sn,sub,ab,col,dd,k0,k1,k2,k3,k5,mN,oC,_,_,_,mroC⟩:=exc_obj X hC
  obtain⟨bm',N',nm',qn',bs',hdct',sn',sub',ab',col',dd',l0,l1,l2,l3,l5,mN',oD,_,_,TD,_⟩:=exc_obj X hD
  have hcB:(Value.ref D::bm').contains (.type "BaseException")=true:=by
    rw[List.contains_cons,TD.hasType (X:="BaseException") (b:=true) (by decide),Bool.or_true]
  have hcC:(Value.ref C::bm).contains (.ref D)=b:=mroC _ _ hm
  have f:=tc_notTuple
  unfold excMatches
  repeat (first | (with_reducible refine wpAny_loadPart_at he ?_;rw[hcls]) | with_reducible refine wpAny_loadPart_at oD ?_ | (with_reducible refine wpAny_isSubtype_exc oD ?_;rw[hcB]) | (with_reducible refine wpAny_isSubtype_exc oC ?_;rw[hcC]) | wp_step)
  all_goals (cases b <;> first | exact hq | (wp_walk;exact hq))
theorem ObjOk.there {P:Program} {w:World} {H:Hp} {h:Heap} {a:Addr} {o:HO} (x:ObjOk P w H h a o):∃ ob,h.get? a=some ob:=by
  cases o with
  | lst xs=>obtain⟨_,_,_,_,e⟩:=x;exact⟨_,e⟩
  | tup xs=>obtain⟨_,_,_,p⟩:=x;obtain⟨ob,e,_⟩:=p;exact⟨ob,e⟩
  | dK kvs=>obtain⟨_,_,_,_,o,_,_,e,_⟩:=x;exact⟨_,e⟩
  | dT kvs=>obtain⟨_,_,_,_,o,_,_,e,_⟩:=x;exact⟨_,e⟩
  | set S n=>obtain⟨o,_,_,_,e,_⟩:=x;exact⟨_,e⟩
  | ins C dx fs=>obtain⟨_,_,_,e,_⟩:=x;exact⟨_,e⟩
  | own y=>exact x
  | xd fs=>obtain⟨_,⟨_,_,_,e,_⟩,_⟩:=x;exact⟨_,e⟩
  | rng lo hi=>obtain⟨_,_,_,e⟩:=x;exact⟨_,e⟩
  | frz ob u=>obtain⟨e,_⟩:=x;exact⟨_,e⟩
  | tbl ps=>exact⟨_,show h.get? a=some _ from x⟩
  | met f y=>exact⟨_,show h.get? a=some _ from x⟩
  | ext φ=>obtain⟨_,e,_⟩:=x;exact e
structure XO (P:Program) (w:World) (outer:List Env) (H:Hp) (s:Shared) (cls:Value) (a:Addr) (H':Hp) (s':Shared):Prop where
  os:s'.os=s.os
  bare:AllBare s'.gens
  un:Un (frs outer) [] H H' s.heap s'.heap
  hok:HOk P w H' s'.heap
  new:s.heap.get? a=none
  free:H' a=none
  fly:∃ B a0,Heap.FlyingW B outer a cls a0 s'.heap/\∀ b o,(H' b ≠ none\/∃ o',s.heap.get? b=some o')->b ∉ frs outer->s'.heap.get? b=some o->B.get? b=some o
def CXe (P:Program) (w:World):CXT:=fun outer H s E e s'=>∃ a cls H',e=.ref a/\XO P w outer H s cls a H' s'/\E cls none H'
section
variable {X:Cx} {pins:List (Addr × Obj)} {σ:St} {H H':Hp} {s s':Shared} {M:Model} {E':Value->Shared->Prop} {a:Addr} {cls:Value}
theorem Un.fly {fs:List Addr} {H0:Hp} {h0 h h' B:Heap} {fr:List Addr} (u:Un fs [] H0 H h0 h) (hfs:∀ b ∈ fr,b ∈ fs\/∀ o,h0.get? b ≠ some o) (stay:B.StaysIn h') (big:∀ b o,h.get? b=some o->b ∉ fr->(H b ≠ none\/∃ o',h0.get? b=some o')->B.get? b=some o)
    (slots:∀ b o,h.get? b=some o->b ∈ fr->∃ sl,h'.get? b=some { o with slots:=sl }) (sub:∀ b ∈ fs,b ∈ fr):Un fs [] H0 H h0 h' where
  keep:=fun b o q n hb hx=>by
    have e:=u.keep b o q n hb hx
    have hf:b ∉ fr:=fun z=>by
      rcases hfs b z with y | y
      · exact hb y
      · exact y o q
    exact stay b o (big b o e hf (.inr ⟨o,q⟩))
  slot:=fun b o q n hb hx=>by
    obtain⟨sl,e⟩:=u.slot b o q n hb hx
    obtain⟨sl',e'⟩:=slots b _ e (sub b hb)
    exact⟨sl',e'⟩
  free:=u.free
  there:=fun b o q hx=>by
    obtain⟨o',e⟩:=u.there b o q hx
    by_cases hf:b ∈ fr
    · obtain⟨sl,e'⟩:=slots b o' e hf
      exact⟨_,e'⟩
    · exact⟨o',stay b o' (big b o' e hf (.inr ⟨o,q⟩))⟩
  tups:=u.tups
  frzs:=u.frzs
  tbls:=u.tbls
theorem HOk.fly {P:Program} {w:World} {H:Hp} {h h' B:Heap} {fr:List Addr} (ok:HOk P w H h) (hfr:∀ b ∈ fr,H b=none) (stay:B.StaysIn h') (big:∀ b o,h.get? b=some o->b ∉ fr->H b ≠ none->B.get? b=some o):HOk P w H h':=fun a o e=>by
  refine (ok a o e).stay (fun b u hb q=>?_) (fun _ q=>q) fun _ _ q=>q
  have hn:H b ≠ none:=by
    rcases hb with rfl | hb
    · rw[e];exact fun z=>nomatch z
    · rw[hb];exact fun z=>nomatch z
  exact stay b u (big b u q (fun z=>hn (hfr b z)) hn)
theorem frs_cons {env:Env} {l:List Env} {L:Addr} (h:env.frame=some L):frs (env::l)=L::frs l:=by
  unfold frs
  rw[List.filterMap_cons,h]
theorem Inv.raise (I:Inv X pins σ H s) (hs:X.stack=X.env::X.outer) (hf:X.env.frame=some X.env.locals) (hex:X.ex=[]) {h1:Heap} {args:List Value} (hx:Heap.MadeExcOf s.heap h1 a cls args) :
    wpAny M X.A (leaving X.env (.ref a)) (fun _ s''=>XO X.prog X.w X.outer X.H₀ X.s₀ cls a H s'') E' { s with heap:=h1 }:=by
  have hfr:X.A.frames=some (X.env::X.outer):=by rw[<- hs];exact I.ok.frames
  have hFF:s.heap.FunFrames X.base (X.env::X.outer):=by rw[<- hs];exact I.stack
  have hin:∀ env ∈ (X.env::X.outer),∀ b,env.frame=some b->b ∈ frs (X.env::X.outer):=fun env he b hb=>List.mem_filterMap.mpr ⟨env,he,hb⟩
  have hfree:∀ b ∈ frs (X.env::X.outer),H b=none:=by rw[<- hs];exact I.stkFree
  have ub:Un X.fs [] X.H₀ H X.s₀.heap s.heap:=by have:=I.base;rw[hex] at this;exact this
  have nL:∀ o,X.s₀.heap.get? X.env.locals ≠ some o:=fun o z=>absurd (Nat.lt_of_lt_of_le (Heap.lt_size z) I.ok.above) (Nat.lt_irrefl _)
  have big:∀ b o,s.heap.get? b=some o->b ∉ frs (X.env::X.outer)->(PySem.W.hideAll s.heap (frs (X.env::X.outer))).get? b=some o:=fun b o e n=>PySem.W.hideAll_get _ e n
  refine wpAny_leaves_madeW (base:=PySem.W.hideAll s.heap (frs (X.env::X.outer))) hfr hf (fun b o q=>PySem.W.of_hideAll _ q) (PySem.W.funFrames_hide hFF hin) hx fun h' t fl _ _ up=>?_
  have slots:∀ b o,s.heap.get? b=some o->b ∈ frs (X.env::X.outer)->∃ sl,h'.get? b=some { o with slots:=sl }:=fun b o e hb=>by
    obtain⟨_,o',e',nf⟩:=hFF.mem hb
    rw[e] at e'
    cases e'
    exact up b o (hx.keeps b o e) nf
  have hfs:∀ b ∈ frs (X.env::X.outer),b ∈ X.fs\/∀ o,X.s₀.heap.get? b ≠ some o:=fun b hb=>by
    rw[frs_cons hf] at hb
    rcases List.mem_cons.mp hb with rfl | hb
    · exact .inr nL
    · exact .inl hb
  have sub:∀ b ∈ X.fs,b ∈ frs (X.env::X.outer):=fun b hb=>by
    rw[frs_cons hf]
    exact List.mem_cons_of_mem _ hb
  refine⟨I.os,I.bare,ub.fly hfs fl.1 (fun b o e n _=>big b o e n) slots sub,I.hok.fly hfree fl.1 (fun b o e n _=>big b o e n),?_,?_,_,_,fl,fun b o hb hn e=>?_⟩
  · cases q:X.s₀.heap.get? a with
    | none=>rfl
    | some o=>
      obtain⟨o',e⟩:=ub.there a o q (by simp)
      have:=hx.new
      rw[e] at this
      cases this
  · cases q:H a with
    | none=>rfl
    | some o=>
      obtain⟨ob,e⟩:=(I.hok a o q).there
      have:=hx.new
      rw[e] at this
      cases this
  · have hbs:∃ ob,s.heap.get? b=some ob:=by
      rcases hb with hb | ⟨o',hb⟩
      · cases q:H b with
        | none=>exact absurd q hb
        | some u=>exact (I.hok b u q).there
      · exact ub.there b o' hb (by simp)
    have hnL:b ∉ frs (X.env::X.outer):=fun z=>by
      rw[frs_cons hf] at z
      rcases List.mem_cons.mp z with rfl | z
      · rcases hb with hb | ⟨o',hb⟩
        · exact hb I.free
        · exact nL o' hb
      · exact hn z
    obtain⟨ob,e1⟩:=hbs
    have e2:=big b ob e1 hnL
    have e3:=fl.1 b ob e2
    rw[e] at e3
    cases e3
    exact e2
theorem Inv.pass (I:Inv X pins σ H s) (hs:X.stack=X.env::X.outer) (hf:X.env.frame=some X.env.locals) (hex:X.ex=[]) (x:XO X.prog X.w X.stack H s cls a H' s') :
    wpAny M X.A (leaving X.env (.ref a)) (fun _ s''=>XO X.prog X.w X.outer X.H₀ X.s₀ cls a H' s'') E' s':=by
  rw[hs] at x
  have hfr:X.A.frames=some (X.env::X.outer):=by rw[<- hs];exact I.ok.frames
  obtain⟨B,a0,fly,big⟩:=x.fly
  have ub:Un X.fs [] X.H₀ H X.s₀.heap s.heap:=by have:=I.base;rw[hex] at this;exact this
  have nL:∀ o,X.s₀.heap.get? X.env.locals ≠ some o:=fun o z=>absurd (Nat.lt_of_lt_of_le (Heap.lt_size z) I.ok.above) (Nat.lt_irrefl _)
  have hfree:∀ b ∈ frs (X.env::X.outer),H b=none:=by rw[<- hs];exact I.stkFree
  have hFF:s.heap.FunFrames X.base (X.env::X.outer):=by rw[<- hs];exact I.stack
  have hsub:∀ b ∈ X.fs,b ∈ frs (X.env::X.outer):=fun b hb=>by
    rw[frs_cons hf]
    exact List.mem_cons_of_mem _ hb
  have ut:Un X.fs [] X.H₀ H' X.s₀.heap s'.heap:=by
    have nofr:∀ b o,X.s₀.heap.get? b=some o->b ∉ X.fs->b ∉ frs (X.env::X.outer):=fun b o q hb z=>by
      rw[frs_cons hf] at z
      rcases List.mem_cons.mp z with rfl | z
      · exact nL o q
      · exact hb z
    refine⟨fun b o q n hb hx=>x.un.keep b o (ub.keep b o q n hb hx) (ub.free b o q n hx) (nofr b o q hb) (by simp),fun b o q n hb hx=>?_,fun b o q n hx=>?_,fun b o q hx=>?_,fun b xs q=>x.un.tups b xs (ub.tups b xs q),fun b o u q=>x.un.frzs b o u (ub.frzs b o u q),fun b ps q=>?_⟩
    · obtain⟨sl,e⟩:=ub.slot b o q n hb hx
      obtain⟨sl',e'⟩:=x.un.slot b _ e (ub.free b o q n hx) (hsub b hb) (by simp)
      exact⟨sl',e'⟩
    · obtain⟨o',e⟩:=ub.there b o q hx
      exact x.un.free b o' e (ub.free b o q n hx) (by simp)
    · obtain⟨o',e⟩:=ub.there b o q hx
      exact x.un.there b o' e (by simp)
    · obtain⟨m1,e1⟩:=ub.tbls b ps q
      obtain⟨m2,e2⟩:=x.un.tbls b _ e1
      exact⟨m1++m2,by rw[e2,Array.append_assoc]⟩
  have hfree':∀ b ∈ frs (X.env::X.outer),H' b=none:=fun b hb=>by
    obtain⟨_,o,e,_⟩:=hFF.mem hb
    exact x.un.free b o e (hfree b hb) (by simp)
  refine wpAny_leaves_onW hfr hf fly fun h' fl up=>?_
  have bigT:∀ b o,s'.heap.get? b=some o->b ∉ frs (X.env::X.outer)->(H' b ≠ none\/∃ o',X.s₀.heap.get? b=some o')->B.get? b=some o:=fun b o e n hb=>by
    refine big b o ?_ n e
    rcases hb with hb | ⟨o',hb⟩
    · exact .inl hb
    · exact .inr (ub.there b o' hb (by simp))
  have slots:∀ b o,s'.heap.get? b=some o->b ∈ frs (X.env::X.outer)->∃ sl,h'.get? b=some { o with slots:=sl }:=fun b o e hb=>by
    obtain⟨_,o',e',nf⟩:=fly.2.2.1.mem hb
    rw[e] at e'
    cases e'
    exact up b o e nf
  have hfs:∀ b ∈ frs (X.env::X.outer),b ∈ X.fs\/∀ o,X.s₀.heap.get? b ≠ some o:=fun b hb=>by
    rw[frs_cons hf] at hb
    rcases List.mem_cons.mp hb with rfl | hb
    · exact .inr nL
    · exact .inl hb
  refine⟨x.os.trans I.os,x.bare,ut.fly hfs fl.1 bigT slots hsub,x.hok.fly hfree' fl.1 (fun b o e n hb=>bigT b o e n (.inl hb)),?_,x.free,B,a0,fl,fun b o hb hn e=>?_⟩
  · cases q:X.s₀.heap.get? a with
    | none=>rfl
    | some o=>
      obtain⟨o',e⟩:=ub.there a o q (by simp)
      have:=x.new
      rw[e] at this
      cases this
  · have hnL:b ∉ frs (X.env::X.outer):=fun z=>by
      rw[frs_cons hf] at z
      rcases List.mem_cons.mp z with rfl | z
      · rcases hb with hb | ⟨o',hb⟩
        · exact hb (hfree' _ (by rw[frs_cons hf];exact List.mem_cons_self))
        · exact nL o' hb
      · exact hn z
    have hbs:∃ ob,s'.heap.get? b=some ob:=by
      rcases hb with hb | ⟨o',hb⟩
      · cases q:H' b with
        | none=>exact absurd q hb
        | some u=>exact (x.hok b u q).there
      · exact ut.there b o' hb (by simp)
    obtain⟨ob,e1⟩:=hbs
    have e2:=bigT b ob e1 hnL hb
    have e3:=fl.1 b ob e2
    rw[e] at e3
    cases e3
    exact e2
end
end L2
namespace L2
open PySem PySem.Spec PyProof.Rows
noncomputable def Cx.hand (X:Cx) (a:Addr):Cx:={ X with A:=X.A.mark (some (.ref a)),calm:=false,xe:=fun _ _=>False }
theorem Cx.Ok.hand {X:Cx} (ok:X.Ok) (a:Addr):(X.hand a).Ok:=
  ⟨ok.mod,ok.kind,ok.glob,ok.blt,ok.above,ok.inj,ok.has,ok.cab,(fun z=>nomatch z),ok.frames,ok.stk,ok.exf,ok.bs,ok.bsz,ok.noex,ok.exfs,ok.funs,ok.frf⟩
section
variable {X:Cx} {pins:List (Addr × Obj)} {σ:St} {H H':Hp} {s s':Shared} {a:Addr}
theorem Inv.hand (I:Inv X pins σ H s) (a:Addr):Inv (X.hand a) pins σ H s:=⟨I.ok.hand a,I.os,I.bare,I.base,I.loc,I.cell,I.free,I.freeC,I.pin,I.hok,I.len⟩
theorem Inv.unhand (ok:X.Ok) (I:Inv (X.hand a) pins σ H s):Inv X pins σ H s:=⟨ok,I.os,I.bare,I.base,I.loc,I.cell,I.free,I.freeC,I.pin,I.hok,I.len⟩
theorem Inv.track {o:HO} (I:Inv X pins σ H s) (hn:H a=none) (hnew:∀ u,X.s₀.heap.get? a ≠ some u) (hok:ObjOk X.prog X.w (upd H a o) s.heap a o) (neL:a ≠ X.env.locals) (neC:∀ x c,X.env.cells.lookup x=some c->c ≠ a) (neP:∀ p ∈ X.pn++pins,p.1 ≠ a):Inv X pins σ (upd H a o) s:=by
  have ne:∀ {b:Addr} {u:HO},H b=some u->b ≠ a:=fun e=>ne_of_none e hn
  refine⟨I.ok,I.os,I.bare,⟨I.base.keep,I.base.slot,fun b u q n hx=>?_,I.base.there,fun b xs q=>?_,fun b u v q=>?_,fun b ps q=>?_⟩,I.loc,I.cell,?_,fun x c e=>?_,fun p hp=>?_,fun b u q=>?_,I.len⟩
  · rw[upd_ne (fun z:b=a=>hnew u (by rw[<- z];exact q))]
    exact I.base.free b u q n hx
  · have:=I.base.tups b xs q
    rw[upd_ne (ne this)]
    exact this
  · have:=I.base.frzs b u v q
    rw[upd_ne (ne this)]
    exact this
  · obtain⟨m,e⟩:=I.base.tbls b ps q
    exact⟨m,by rw[upd_ne (ne e)];exact e⟩
  · rw[upd_ne (Ne.symm neL)]
    exact I.free
  · rw[upd_ne (neC x c e)]
    exact I.freeC x c e
  · obtain⟨e,n,y⟩:=I.pin p hp
    exact⟨e,by rw[upd_ne (neP p hp)];exact n,y⟩
  · by_cases hb:b=a
    · subst hb
      rw[upd_same] at q
      cases q
      exact hok
    · rw[upd_ne hb] at q
      exact (I.hok b u q).stay (fun _ _ _ z=>z) (fun c z=>by rw[upd_ne (ne z)];exact z) fun c xs z=>by rw[upd_ne (ne z)];exact z
theorem Inv.gone {i:Nat} {x:Str} {h':Heap} {v:Option Value} {m:Str->Option Value} {tk:Nat} (I:Inv X pins σ H s) (hN:X.N.Nodup) (hi:X.N[i]?=some x) (hn:s.heap.Ns X.env.locals m)
    (hl:∀ (i:Nat) (x:Str) (v:V),X.N[i]?=some x->σ[i]?=some (some v)->Vis X.env.scope x->∃ u,RelV v u/\Look X.env s.heap m x u)
    (hn':h'.Ns X.env.locals (fun y=>if y=x then v else m y)) (hs:Heap.SameBut X.env.locals s.heap h'):Inv X pins (σ.set i none) H { s with heap:=h',toks:=tk }:=by
  have cne:=I.cne
  obtain⟨oL,_,_,hoL,_⟩:=id hn
  refine⟨I.ok,I.os,I.bare,⟨fun b o e n hb hx=>?_,fun b o e n hb hx=>?_,I.base.free,fun b o e hx=>?_,I.base.tups,I.base.frzs,I.base.tbls⟩,⟨_,hn',fun j y v' e1 e2 e3=>?_⟩,fun y c e=>?_,I.free,I.freeC,fun p hp=>?_,fun b ob e=>?_,by simpa using I.len⟩
  · exact (hs.2 b (Nat.ne_of_lt (Nat.lt_of_lt_of_le (Heap.lt_size e) I.ok.above))).trans (I.base.keep b o e n hb hx)
  · obtain⟨sl,e1⟩:=I.base.slot b o e n hb hx
    exact⟨sl,(hs.2 b (Nat.ne_of_lt (Nat.lt_of_lt_of_le (Heap.lt_size e) I.ok.above))).trans e1⟩
  · obtain⟨o',e1⟩:=I.base.there b o e hx
    exact⟨o',(hs.2 b (Nat.ne_of_lt (Nat.lt_of_lt_of_le (Heap.lt_size e) I.ok.above))).trans e1⟩
  · by_cases hj:j=i
    · subst hj
      by_cases hlt:j < σ.length
      · rw[List.getElem?_set_self hlt] at e2;cases e2
      · rw[List.getElem?_eq_none (by simp;omega)] at e2;cases e2
    · rw[List.getElem?_set_ne (Ne.symm hj)] at e2
      obtain⟨u',r',q⟩:=hl j y v' e1 e2 e3
      refine⟨u',r',?_⟩
      rcases q with ⟨k,e⟩ | ⟨k,c,e,z⟩
      · refine .inl ⟨k,?_⟩
        have:y ≠ x:=fun e=>hj (nodup_ix hN e1 (e ▸ hi))
        simp[this,e]
      · exact .inr ⟨k,c,e,z.sameBut hs (cne y c e)⟩
  · obtain⟨w',z⟩:=I.cell y c e
    exact⟨w',z.sameBut hs (cne y c e)⟩
  · obtain⟨e,n,ne,nf,d⟩:=I.pin p hp
    exact⟨(hs.2 p.1 ne).trans e,n,ne,nf,d⟩
  · refine (I.hok b ob e).stay (fun c w' hc q=>(hs.2 c ?_).trans q) (fun _ q=>q) fun _ _ q=>q
    rintro rfl
    rcases hc with rfl | hc
    · rw[I.free] at e;cases e
    · rw[I.free] at hc;cases hc
def tRaise (EX:Hp->Prop) (t:TA):TS:=fun _ σ H=>t σ H fun vs H1=>vs.length <= 10/\EX H1
theorem ps_raise {x:Str} {C:Addr} {e:Expr} {es:List Expr} {t:TA} {np cpos pos:Pos} {EX:Hp->Prop} (hc:X.calm=true) (hg:Gl X x) (hm:X.mg x=some (.ref C)) (he:ExcC X.K C) (ha:PA X (e::es) t)
    (hx:∀ pins σ H s h' a vs,Inv X pins σ H s->Heap.MadeExcOf s.heap h' a (.ref C) vs->EX H->X.xe (.ref a) { s with heap:=h' })
    (hd:(x == ("__debug__" : Str))=false:=by decide) (hst:starEach (e::es) X.env=(false,eval e X.env)::starEach es X.env:=by rfl) (hpl:(backTo cpos (starEach es X.env)).any (·.1)=false:=by rfl) :
    PS X (.Raise (some (.Call (.Name x np) (e::es) [] cpos)) none pos) (tRaise EX t):=by
  intro pins s σ H D I h
  obtain⟨bm,N,nm,qn,bs,hdct,sn,sub,ab,col,dd,k0,k1,k2,k3,k5,mN,oC,hN,hni,TL,_⟩:=exc_obj (I.ok.mod.kin) he
  refine wpAny_Raise_call_subT (C:=C) (nm:=nm) (q:=qn) (N:=N) (bs:=bs) (bm:=bm) (hdct:=hdct) (sn:=sn) (sub:=sub) (ab:=ab) (col:=col) (dd:=dd) (k0:=k0) (k1:=k1) (k2:=k2) (k3:=k3) (k5:=k5)
    PySem.F.excBase_ValueError (mN:=mN) (TL.hasType (by decide)) (I.ok.hd hc) (by rw[hst];show (false || (backTo cpos (starEach es X.env)).any (·.1))=false;rw[hpl];rfl) hni (ld_glob I hg hm ⟨rfl,?_⟩ hd)
  have hA:=ha cpos pins s σ H _ I h
  rw[hst] at hA ⊢
  refine Calls.evalArgs_plain (thn hA fun us s1 ⟨vs,H1,I1,r,z,q⟩=>⟨rfl,?_,I1.bk _ _ oC,hN.keeps I1.bk,TL.keeps I1.bk,fun h' a hmk=>hx pins σ H1 s1 h' a us I1 hmk q⟩)
  rw[<- r.length]
  exact fits2 (by omega)
end
section
variable {P:Program} {w:World} {K:PySem.W.Frag} {mg:Str->Option Value} {base:Heap} {N:List Str} {qual:Str} {scope:Scope} {f:Addr} {cd:Value} {A:Around} {outer:List Env} {s₀:Shared} {H₀:Hp} {E:XK}
theorem xe_raise {C:Addr}:∀ pins σ H s h' a vs,Inv (cxOf (CXe P w) P w K mg base N qual scope f cd A outer s₀ H₀ E) pins σ H s->Heap.MadeExcOf s.heap h' a (.ref C) vs->E (.ref C) none H ->
    (cxOf (CXe P w) P w K mg base N qual scope f cd A outer s₀ H₀ E).xe (.ref a) { s with heap:=h' }:=fun pins σ H s h' a vs I hmk q=>
  wpAny_mono (Inv.raise (M:=model P w) (E':=fun _ _=>False) I rfl rfl rfl hmk) (fun _ s'' x=>⟨a,.ref C,H,rfl,x,q⟩) fun _ _ z=>z.elim
theorem pass_on:Passes (CXe P w) (cxOf (CXe P w) P w K mg base N qual scope f cd A outer s₀ H₀ E) E:=fun pins σ H s e s' I h=>by
  obtain⟨a,cls,H',rfl,x,q⟩:=h
  exact wpAny_mono (Inv.pass (M:=model P w) (E':=fun _ _=>False) I rfl rfl rfl x) (fun _ s'' y=>⟨a,cls,H',rfl,y,q⟩) fun _ _ z=>z.elim
theorem Fun.okE {x qual:Str} {st:Stmt} {f:Addr} {fd:FuncData} {N ps:List Str} {k:Nat} {sp:Sp} (F:Fun K x qual st f fd) (S:FnScope N ps (defScope st)) (len:∀ vs H Q E,sp vs H Q E->vs.length=ps.length)
    (hbody:∀ (cdv:Value) (A:Around) (outer:List Env) (s:Shared) (H:Hp) (vs:List V) (Q:VK) (E:XK),Room k (A.deeper (envOfC qual (defScope st) s.heap.objs.size f cdv))->sp vs H Q E ->
      ∃ t,QSs (cxOf (CXe P w) P w K mg base N qual (defScope st) f cdv A outer s H E) (defBody st) t/\t { nx:=fun _ H'=>Q .non H',rt:=Q } (start N vs) H):FnOk P w K mg base (CXe P w) (k+1) f fd ps sp:=by
  obtain⟨oc,od,kV,doc,pm,an,cdv,ct,osl,rfl,lk,hcd⟩:=F.ex
  refine fn_of lk hcd S len fun A outer s H vs Q E hr hsp=>?_
  obtain⟨t,h,q⟩:=hbody cdv A outer s H vs Q E hr hsp
  exact⟨t,h.h,q⟩
end
noncomputable def excO (a C:Addr):HO:=.ext fun h=>∃ o,h.get? a=some o/\o.cls=.ref C
section
variable {X:Cx} {k:Nat} {f Dc:Addr} {fd:FuncData} {ps:List Str} {sp:Sp} {x dn n:Str} {i:Nat} {p cpos epos np hpos pos:Pos} {e:Expr} {es:List Expr} {t:TA} {ts:TS} {b0:Stmt} {suite:List Stmt}
end
end L2
namespace L2
open PySem PySem.Spec PySem.Calls PyProof.Rows PySem.W Builtin Builtin.ObjectAttr Builtin.Getset_descriptor
structure XCls (K:Frag) (C:Addr):Prop where
  ex:ExcC K C
  ga:findIn K (.ref C) "__getattribute__" = some (some (.builtin "BaseException.__getattribute__"))
  gt:findIn K (.ref C) "__getattr__" = some none
  ca:findIn K (.ref C) "__class__" = some (some (.builtin "object.__class__"))
  sp:specialIn K (.builtin "object.__class__") "__get__" = some (some (.builtin "getset_descriptor.__get__"))
  tk:takesIn K (.builtin "object.__class__")=some true
  mo:mroIn K C (.type "object")=some true
  mb:mroIn K C (.type "BaseException")=some true
def ExcAt (a C:Addr) (h:Heap):Prop:=∃ o,h.get? a=some o/\o.cls=.ref C
section
variable {prog:Program} {w:World} {A:Around} {E:Value->Shared->Prop} {K:Frag} {a C:Addr} {s:Shared}
theorem excAt_ty {M:Model} {h:Heap} (p:ExcAt a C h):Looks M h (typeOf (.ref a)) (.ref C):=by
  obtain⟨o,h1,h2⟩:=p
  exact h2 ▸ (Looks.ld h1).andThen .now
theorem exc_class_get {R:Result->Shared->Prop} {tp:Value} (X:K.In s.heap) (I:ExcAt a C s.heap) (hm:mroIn K C (.type "object")=some true)
    (h:R (.ok (.ret (.ref C))) s):codeAny (model prog w) A (.call (.builtin "getset_descriptor.__get__") ⟨[.builtin "object.__class__",.ref a,tp],[]⟩) R s:=by
  obtain⟨hh,g,dr,t,os⟩:=s
  have L0:=excAt_ty (M:=model prog w) I
  have L1:=looks_mroIn (M:=model prog w) X hm
  refine codeAny_call_builtin KF.slot_gs.plain KF.entry_gs (KF.slot_gs.check _ _ _ _ _ _ _ _ KF.type_class (KF.args_gs _ _ _) ?_)
  unfold Builtin.«getset_descriptor.__get__» descrGet
  rw[dga_obj]
  refine wpAny_bind (wpAny_pure ?_)
  unfold descrGetter descrCheckInstance descrNameAndClass isInstance
  simp only[KF.owner_class]
  repeat lk
  refine⟨Code.quiet_builtin _ (by decide +kernel),codeAny_builtin KF.entry_class ?_⟩
  unfold Builtin.«object.__class__» shownTypeOf
  repeat lk
  exact h
theorem exc_check_ga {M:Model} {nameV:Value} {Q:Unit->Shared->Prop} (X:K.In s.heap) (I:ExcAt a C s.heap) (hm:mroIn K C (.type "BaseException")=some true) (hq:Q () s):wpAny M A (checkBuiltinCall "BaseException.__getattribute__" ⟨[.ref a,nameV],[]⟩) Q E s:=by
  obtain⟨hh,g,dr,t,os⟩:=s
  have hk:builtinKind "BaseException.__getattribute__" = some .slot:=by decide +kernel
  have hsplit:splitId "BaseException.__getattribute__" = some ("BaseException", "__getattribute__"):=by decide +kernel
  have ha:=F.args_bexc_ga (.ref a) nameV
  have L0:=excAt_ty (M:=M) I
  have L1:=looks_mroIn (M:=M) X hm
  simp only[checkBuiltinCall,hk,hsplit]
  refine wpAny_bind ?_
  unfold isInstance
  refine wpAny_bind (L0.at (L1.at ?_))
  repeat (first | assumption | wp_step)
theorem exc_entry {tk:Tok} {Q:Fin->Shared->Prop} (X:K.In s.heap) (I:ExcAt a C s.heap) (c:XCls K C) (hq:Q (.done (.ret (.ref C))) s):wpAny (model prog w) A (Builtin.«object.__getattribute__» ⟨[.ref a,.str "__class__" tk],[]⟩) Q E s:=by
  obtain⟨hh,g,dr,t,os⟩:=s
  have L0:=excAt_ty (M:=model prog w) I
  have L1:=looks_findIn (M:=model prog w) X c.ca
  have f5:=F.typeOf_object_class
  have f6:=F.slot_gs_get.lookup
  have f7:=F.slot_gs_set.lookup
  have hT5:(⟨hh,g,dr,t,os⟩ : Shared).TypeIs (.builtin "object.__class__") "getset_descriptor":=F.typeOf_object_class
  repeat (any_goals (first | assumption | with_reducible refine L0.at ?_ | with_reducible refine L1.at ?_ | wp_step))
  refine exc_class_get X I c.mo ?_
  repeat (any_goals (first | assumption | wp_step))
theorem exc_ca {Q:Option Value->Shared->Prop} (X:K.In s.heap) (I:ExcAt a C s.heap) (c:XCls K C) (hq:Q (some (.ref C)) { s with toks:=s.toks+1 }):wpAny (model prog w) A (getAttr? (.ref a) "__class__") Q E s:=by
  obtain⟨hh,g,dr,t,os⟩:=s
  have L0:=excAt_ty (M:=model prog w) I
  have L1:=looks_findIn (M:=model prog w) X c.ga
  have L2':=looks_findIn (M:=model prog w) X c.gt
  have f3:=PySem.F.excAttr_ValueError.ga.bind (.ref a)
  have hx2:(Value.builtin "BaseException.__getattribute__" == Value.builtin "object.__getattribute__")=false:=by decide +kernel
  have hx1:(onTheHeap (Value.ref C) && Value.builtin "BaseException.__getattribute__" == Value.builtin "object.__getattribute__")=false:=by rw[hx2];rfl
  unfold getAttr? getAttrBy?
  repeat (any_goals (first | assumption | with_reducible refine L0.at ?_ | with_reducible refine L1.at ?_ | with_reducible refine L2'.at ?_ | wp_step))
  refine codeAny_call_builtin PySem.F.excAttr_ValueError.ga.plain F.entry_bexc_ga (exc_check_ga X I c.mb (exc_entry X I c ?_))
  exact handed_on rfl (wpAny_pure hq)
theorem kitx_exc (c:XCls K C):KitX K (.ref a) (.ref C) (ExcAt a C) where
  ty:=fun _ _ _ I=>excAt_ty I
  it:=fun _ h X _=>by
    obtain⟨bm,N,nm,qn,bs,hdct,sn,sub,ab,col,dd,k0,k1,k2,k3,k5,mN,oC,_⟩:=exc_obj X c.ex
    intro A' Q' E' s' k q
    unfold isType loadHead
    exact wpAny_bind (wpAny_loadPart (k _ _ oC) (wpAny_pure q))
  ne:=fun h tp dd its n sl X htp=>by
    obtain⟨bm,N,nm,qn,bs,hdct,sn,sub,ab,col,dd',k0,k1,k2,k3,k5,mN,oC,_⟩:=exc_obj X c.ex
    refine Bool.eq_false_iff.mpr fun q=>?_
    have e:C=tp:=Value.ref.inj (beq_iff_eq.mp q)
    subst e
    have z:=congrArg (fun o:Option Obj=>o.map (·.cls)) (oC.symm.trans htp)
    simp[excClassObj] at z
  ca:=fun X I k=>exc_ca X I c k
end
section
variable {X:Cx}
theorem vals_refs:∀ {ds:List Addr} {us:List Value},Vals (ds.map V.ref) us->us=ds.map Value.ref
  | [],_,r=>by cases r;rfl
  | d::ds,_,r=>by
    rw[List.map_cons] at r
    cases r with
    | cons r1 r2=>
      cases (show _=Value.ref d from r1)
      rw[vals_refs r2]
      rfl
theorem call_isx:CallR X (.builtin "isinstance") (fun xs H Q=>∃ (a C:Addr) (v:V) (b:Bool),xs=[.ref a,v]/\H a=some (excO a C)/\XCls X.K C /\
    ((∃ D,v=.ref D/\kitOne X.K (.ref C) (.ref D)=some b)\/(∃ T,v=.ty T/\kitOne X.K (.ref C) (.type T)=some b)\/(∃ (p:Addr) (ds:List Addr),v=.ref p/\H p=some (.tup (ds.map V.ref))/\kitAny X.K (.ref C) (ds.map Value.ref)=some b))/\Q (.bl b) H):=by
  intro pins s σ H xs us Q I r h
  obtain⟨a,C,v,b,rfl,ha,c,alt,q⟩:=h
  obtain⟨u,u',rfl,ru,rv⟩:=vals2 r
  cases ru
  have hat:ExcAt a C s.heap:=(I.hok a _ ha).1
  have fin:∀ tk,EP X pins σ Q (.bool b) { s with toks:=tk }:=fun tk=>⟨.bl b,H,I.tok tk,rfl,q⟩
  rcases alt with ⟨D,rfl,e⟩ | ⟨T,rfl,e⟩ | ⟨p,ds,rfl,hp,e⟩
  · cases rv
    exact kia_one (kitx_exc c) I.kIn hat e (fun z=>nomatch z) fin
  · cases rv
    exact kia_one (kitx_exc c) I.kIn hat e (fun z=>nomatch z) fin
  · cases rv
    obtain⟨its,r1,⟨⟨cls,dd,data,sl⟩,ho,hc,n,hd⟩,_⟩:=I.tuple (.of hp)
    simp only at hc hd
    subst hc hd
    rw[vals_refs r1] at ho
    exact kia_tup (kitx_exc c) I.kIn hat ho e (fun z=>nomatch z) fin
end
end L2
namespace L2
open PySem PySem.Spec PyProof.Rows
section
variable {X:Cx} {pins:List (Addr × Obj)} {σ:St} {H:Hp} {s:Shared}
end
section
variable {X:Cx} {pins:List (Addr × Obj)} {σ:St} {H:Hp} {s:Shared} {te:TE} {e:Expr} {pos:Pos} {k:Nat}
def tFmt (te:TE):TE:=fun σ H Q=>te σ H fun v H1=>(∃ x,v=.str x/\x.length <= sizeLine/\Q (.str x) H1)\/(∃ i:Int,v=.int i/\i.natAbs.log2 < 1920/\Q (.str (toString i)) H1)
theorem pe_fmt (he:PE X e te):PE X (.FormattedValue e (-1) none pos) (tFmt te):=fun pins s σ H Q I h=>
  wpAny_FormattedValue_plain (thn (he pins s σ H _ I h) fun u s1 ⟨v,H1,I1,r,q⟩=>by
    rcases q with ⟨x,rfl,hx,q⟩ | ⟨i,rfl,hi,q⟩
    · obtain⟨t,rfl⟩:=r
      exact wpAny_formatField_str ⟨.str x,H1,I1,⟨_,rfl⟩,q⟩ ⟨.str x,H1,I1.tok _,⟨_,rfl⟩,q⟩ hx
    · obtain⟨t,rfl⟩:=r
      exact wpAny_formatField_int hi ⟨.str _,H1,I1.tok _,⟨_,rfl⟩,q⟩)
def tJoins:List TE->Str->TE
  | [],acc=>fun _ H Q=>Q (.str acc) H
  | t::ts,acc=>fun σ H Q=>t σ H fun v H1=>∃ y,v=.str y/\(acc++y).length <= sizeLine/\tJoins ts (acc++y) σ H1 Q
structure QJ (X:Cx) (es:List Expr) (ts:List TE):Prop where
  h:∀ (acc:Str) (pins:List (Addr × Obj)) (s:Shared) (σ:St) (H:Hp) (Q:VK),acc.length <= sizeLine->Inv X pins σ H s->tJoins ts acc σ H Q->Joins (model X.prog X.w) X.A X.xe (evalEach es X.env) acc (fun out s1=>out.length <= sizeLine/\EP X pins σ Q (.str out s1.toks) { s1 with toks:=s1.toks+1 }) s
theorem qj_nil:QJ X [] []:=⟨fun acc pins s σ H Q ha I h=>⟨ha,.str acc,H,I.tok _,⟨_,rfl⟩,h⟩⟩
theorem qj_cons {es:List Expr} {ts:List TE} (he:QE X e te) (hr:QJ X es ts):QJ X (e::es) (te::ts):=⟨fun acc pins s σ H Q ha I h=>by
  show wpAny _ _ (eval e X.env) _ _ _
  refine thn (he.h pins s σ H _ I h) fun u s1 ⟨v,H1,I1,r,y,ev,hy,q⟩=>?_
  subst ev
  obtain⟨t,rfl⟩:=r
  exact⟨y,t,rfl,hy,hr.h _ _ _ _ _ _ hy I1 q⟩⟩
theorem qe_join {e2:Expr} {es:List Expr} {ts:List TE} (h:QJ X (e::e2::es) ts):QE X (.JoinedStr (e::e2::es) pos) (tJoins ts Str.empty):=⟨fun pins s σ H Q I q=>wpAny_JoinedStr (h.h _ _ _ _ _ _ (by decide) I q)⟩
theorem qe_fmt (he:QE X e te):QE X (.FormattedValue e (-1) none pos) (tFmt te):=⟨pe_fmt he.h⟩
end
end L2
namespace L2
open PySem PySem.Spec PyProof.Rows
section
variable {X:Cx}
theorem qs_raise {x:Str} {C:Addr} {e:Expr} {es:List Expr} {t:TA} {np cpos pos:Pos} {EX:Hp->Prop} (hc:X.calm=true) (hg:Gl X x) (hm:X.mg x=some (.ref C)) (he:ExcC X.K C) (ha:QA X (e::es) t)
    (hx:∀ pins σ H s h' a vs,Inv X pins σ H s->Heap.MadeExcOf s.heap h' a (.ref C) vs->EX H->X.xe (.ref a) { s with heap:=h' })
    (hd:(x == ("__debug__" : Str))=false:=by decide) (hst:starEach (e::es) X.env=(false,eval e X.env)::starEach es X.env:=by rfl) (hpl:(backTo cpos (starEach es X.env)).any (·.1)=false:=by rfl) :
    QS X (.Raise (some (.Call (.Name x np) (e::es) [] cpos)) none pos) (tRaise EX t):=⟨ps_raise hc hg hm he ha.h hx hd hst hpl⟩
variable {k:Nat} {f Dc:Addr} {fd:FuncData} {ps:List Str} {sp:Sp} {x dn n:Str} {i:Nat} {p cpos epos np hpos pos:Pos} {e:Expr} {es:List Expr} {t:TA} {ts:TS} {b0:Stmt} {suite:List Stmt}
end
end L2
namespace L2
open PySem PySem.Spec PyProof.Rows
section
variable {κ:Type} [DecidableEq κ]
noncomputable def valV (kvs:List (κ × V)) (k:κ):Option V:=(kvs.find? fun kv=>decide (kv.1=k)).map (·.2)
noncomputable def putK (kvs:List (κ × V)) (k:κ) (v:V):List (κ × V):=
  if (kvs.any fun kv=>decide (kv.1=k))=true then kvs.map (fun kv=>if kv.1=k then (kv.1,v) else kv) else kvs++[(k,v)]
theorem valV_pos {p:κ × V} {r:List (κ × V)} {k:κ} (e:p.1=k):valV (p::r) k=some p.2:=by simp[valV,List.find?_cons,e]
theorem valV_neg {p:κ × V} {r:List (κ × V)} {k:κ} (e:¬ p.1=k):valV (p::r) k=valV r k:=by simp[valV,List.find?_cons,e]
theorem length_putK (kvs:List (κ × V)) (k:κ) (v:V):(putK kvs k v).length <= kvs.length+1:=by
  unfold putK
  split
  · rw[List.length_map];omega
  · rw[List.length_append,List.length_cons,List.length_nil];omega
theorem RelO.isSome_eq {o:Option V} {u:Option Value} (r:RelO o u):o.isSome=u.isSome:=by
  cases o with
  | none=>cases u with
    | none=>rfl
    | some _=>exact (show False from r).elim
  | some _=>cases u with
    | none=>exact (show False from r).elim
    | some _=>rfl
theorem KV.val {kvs:List (κ × V)} {vs:List (κ × Value)} (r:KV kvs vs) (k:κ):RelO (valV kvs k) (valueAt vs k):=by
  unfold KV at r
  induction r with
  | nil=>exact True.intro
  | @cons p q ps qs h t ih=>
    obtain⟨h1,h2⟩:=h
    by_cases e:p.1=k
    · have e':q.1=k:=h1.symm.trans e
      have b:valueAt (q::qs) k=some q.2:=by simp[valueAt,List.find?_cons,e']
      rw[valV_pos e,b];exact h2
    · have e':¬ q.1=k:=fun z=>e (h1.trans z)
      have b:valueAt (q::qs) k=valueAt qs k:=by simp[valueAt,List.find?_cons,e']
      rw[valV_neg e,b];exact ih
theorem KV.any {kvs:List (κ × V)} {vs:List (κ × Value)} (r:KV kvs vs) (k:κ):(kvs.any fun kv=>decide (kv.1=k))=vs.any fun kv=>decide (kv.1=k):=by
  unfold KV at r
  induction r with
  | nil=>rfl
  | cons h t ih=>rw[List.any_cons,List.any_cons,ih,h.1]
theorem KV.repl {kvs:List (κ × V)} {vs:List (κ × Value)} (r:KV kvs vs) (k:κ) {y:V} {u:Value} (ry:RelV y u) :
    KV (kvs.map fun kv=>if kv.1=k then (kv.1,y) else kv) (vs.map fun kv=>if kv.1=k then (kv.1,u) else kv):=by
  unfold KV at r ⊢
  induction r with
  | nil=>exact .nil
  | @cons p q ps qs h t ih=>
    rw[List.map_cons,List.map_cons]
    refine .cons ?_ ih
    obtain⟨h1,h2⟩:=h
    by_cases e:p.1=k
    · rw[if_pos e,if_pos (h1.symm.trans e)];exact⟨h1,ry⟩
    · rw[if_neg e,if_neg (fun z=>e (h1.trans z))];exact⟨h1,h2⟩
theorem KV.put {kvs:List (κ × V)} {vs:List (κ × Value)} (r:KV kvs vs) (k:κ) {y:V} {u:Value} (ry:RelV y u):KV (putK kvs k y) (stored vs k u):=by
  unfold putK stored
  rw[r.any k]
  by_cases e:(vs.any fun kv=>decide (kv.1=k))=true
  · rw[if_pos e,if_pos e];exact r.repl k ry
  · rw[if_neg e,if_neg e];exact Paired.snoc r ⟨rfl,ry⟩
end
theorem kV_is {P:Program} {w:World} {k:Key} {u:Value} (r:RelV (kV k) u):(mixKind P w).is k u=true:=by
  cases k with
  | inl i=>obtain⟨t,e⟩:=(show ∃ t,u=Value.int i t from r);subst e;exact mixKind_int P w i t
  | inr x=>obtain⟨t,e⟩:=(show ∃ t,u=Value.str x t from r);subst e;exact mixKind_str P w x t
theorem items_are {P:Program} {w:World}:∀ {ks:List Key} {us:List Value},Vals (ks.map kV) us->ItemsAre (mixKind P w) ks us
  | [],_,r=>by rw[List.map_nil] at r;cases r;exact .nil
  | k::ks,_,r=>by
    rw[List.map_cons] at r
    cases r with
    | cons h t=>exact .cons (kV_is h) (items_are t)
abbrev KT (H:Hp):List (List Key × V)->List (List Key × Addr × Value)->Prop:=Paired fun p q=>p.1=q.1/\H q.2.1=some (.tup (p.1.map kV))/\RelV p.2 q.2.2
theorem KT.val {H:Hp} {kvs:List (List Key × V)} {xs:List (List Key × Addr × Value)} (r:KT H kvs xs) (k:List Key):RelO (valV kvs k) ((atKey xs k).map (·.2)):=by
  induction r with
  | nil=>exact True.intro
  | @cons p q ps qs h t ih=>
    obtain⟨h1,_,h2⟩:=h
    by_cases e:p.1=k
    · have e':q.1=k:=h1.symm.trans e
      have b:atKey (q::qs) k=some q.2:=by simp[atKey,List.find?_cons,e']
      rw[valV_pos e,b];exact h2
    · have e':¬ q.1=k:=fun z=>e (h1.trans z)
      have b:atKey (q::qs) k=atKey qs k:=by simp[atKey,List.find?_cons,e']
      rw[valV_neg e,b];exact ih
section
variable {P:Program} {w:World} {H:Hp} {h:Heap} {a:Addr}
theorem rd_of {u:HO} (ok:HOk P w H h) (e:Rd H a u):ObjOk P w H h a u:=e.ok ok
theorem dk_rd {kvs:List (Key × V)} (ok:HOk P w H h) (e:Rd H a (.dK kvs)):kvs.length <= sizeLine/\(a == sysModules)=false/\∃ vs,KV kvs vs/\h.DictOf (mixKind P w) a vs:=
  show ObjOk P w H h a (.dK kvs) from rd_of ok e
theorem dk_of {kvs:List (Key × V)} (ok:HOk P w H h) (e:H a=some (.dK kvs)):kvs.length <= sizeLine/\(a == sysModules)=false/\∃ vs,KV kvs vs/\h.DictOf (mixKind P w) a vs:=dk_rd ok (.inl e)
theorem key_of {ks:List Key} (ok:HOk P w H h) (e:H a=some (.tup (ks.map kV))):(tupleKind (mixKind P w)).is h ks a:=by
  obtain⟨_,its,r,o,h1,h2,n,h3⟩:=(show ObjOk P w H h a (.tup (ks.map kV)) from ok a _ e)
  exact⟨o,its.toArray,n,h1,h2,h3,by simpa using items_are r⟩
theorem dt_rd {kvs:List (List Key × V)} (ok:HOk P w H h) (e:Rd H a (.dT kvs)):kvs.length <= sizeLine/\(a == sysModules)=false /\
    ∃ xs,KT H kvs xs/\h.DictOfH (tupleKind (mixKind P w)) a xs:=by
  obtain⟨z,y,xs,r,o,es,ep,h1,h2,h3,h4,h5⟩:=(show ObjOk P w H h a (.dT kvs) from rd_of ok e)
  refine⟨z,y,xs,r,o,es,ep,h1,h2,h3,h4,fun x hx=>?_,h5⟩
  have all:∀ {l:List (List Key × V)} {m:List (List Key × Addr × Value)},KT H l m->∀ x ∈ m,(tupleKind (mixKind P w)).is h x.1 x.2.1:=by
    intro l m q
    induction q with
    | nil=>intro x hx;exact nomatch hx
    | @cons p q ps qs hq t ih=>
      intro x hx
      rcases List.mem_cons.mp hx with e | hx
      · subst e
        exact key_of ok (by rw[<- hq.1];exact hq.2.1)
      · exact ih x hx
  exact all r x hx
end
def DGet (H:Hp) (a:Addr) (y:V) (r:Option V):Prop:=
  (∃ kvs k,Rd H a (.dK kvs)/\y=kV k/\r=valV kvs k)\/∃ kvs k b,Rd H a (.dT kvs)/\y=.ref b/\H b=some (.tup (k.map kV))/\r=valV kvs k
theorem DGet.k {H:Hp} {a:Addr} {kvs:List (Key × V)} {k:Key} (e:H a=some (.dK kvs)):DGet H a (kV k) (valV kvs k):=.inl ⟨kvs,k,.inl e,rfl,rfl⟩
section
variable {X:Cx} {pins:List (Addr × Obj)} {σ:St} {H:Hp} {s:Shared} {a:Addr} {y v:V} {u r:Value} {o:Option V} {A:Around} {E:Value->Shared->Prop}
theorem Inv.big (I:Inv X pins σ H s):sysModules < s.heap.objs.size:=by
  have h:mainGlobals < s.heap.objs.size:=(I.mod.glob.keeps I.bk).lt
  exact Nat.lt_trans (by decide) h
theorem d_getItem {Q:Value->Shared->Prop} (hu:A.units+1 < cLine) (I:Inv X pins σ H s) (g:DGet H a y (some v)) (ry:RelV y u) (h:∀ w' s',Inv X pins σ H s'->RelV v w'->Q w' s') :
    wpAny (model X.prog X.w) A (getItem (.ref a) u) Q E s:=by
  rcases g with ⟨kvs,k,e,ey,l⟩ | ⟨kvs,k,b,e,ey,eb,l⟩
  · subst ey
    obtain⟨z,hd,vs,rel,dd⟩:=dk_rd I.hok e
    obtain⟨w',hw,rw'⟩:=RelO.some_of (v:=v) (o:=valueAt vs k) (by rw[l];exact rel.val k)
    exact wpAny_getItem_of (kV_is ry) dd.mapOf hw (h w' _ (I.tok _) rw')
  · subst ey
    cases (show u=Value.ref b from ry)
    obtain⟨z,hd,xs,rel,dd⟩:=dt_rd I.hok e
    obtain⟨w',hw,rw'⟩:=RelO.some_of (v:=v) (o:=(atKey xs k).map (·.2)) (by rw[l];exact rel.val k)
    obtain⟨p,hp,hp2⟩:=Option.map_eq_some_iff.mp hw
    refine wpAny_getItem_heap (tupleKind_room_in1 hu) (key_of I.hok eb) dd hp ?_
    rw[hp2]
    exact h w' _ (I.tok _) rw'
theorem d_write {h':Heap} {t':Nat} {ob:HO} (I:Inv X pins σ H s) (mu:Mut (H a)) (hs:Heap.SameBut a s.heap h') (he:∃ q,h'.get? a=some q) (new:ObjOk X.prog X.w (upd H a ob) h' a ob) :
    Inv X pins σ (upd H a ob) { s with heap:=h',toks:=t' }:=
  I.write (x:=a) (e:=a) mu (.inl rfl) (fun b q hb z=>(hs.2 b hb).trans z) he new
theorem dk_new {P:Program} {w:World} {H':Hp} {h':Heap} {kvs:List (Key × V)} {vs:List (Key × Value)} (z:kvs.length <= sizeLine) (hd:(a == sysModules)=false) (rel:KV kvs vs) (dd:h'.DictOf (mixKind P w) a vs) :
    ObjOk P w H' h' a (.dK kvs):=⟨z,hd,vs,rel,dd⟩
end
section
variable {X:Cx} {pins:List (Addr × Obj)} {σ:St} {H:Hp} {s:Shared} {a:Addr} {kvs:List (Key × V)} {k:Key} {u:Value} {A:Around} {E:Value->Shared->Prop}
end
def NoSl (i:Expr):Prop:=∀ ov iv,subscripted i false ov iv=operate [ov,iv] (getItem ov iv)
theorem subD_of {prog:Program} {w:World} {A:Around} {E:Value->Shared->Prop} {s:Shared} {env:Env} {value slice:Expr} {pos:Pos} {T id:String} {Q:Value->Shared->Prop}
    (hl:typeLookup (.type T) "__getitem__" = pure (some (.builtin id))) (hs:NoSl slice)
    (h:wpAny (model prog w) A (eval value env) (fun o s₁=>wpAny (model prog w) A (eval slice env) (fun i s₂=>s₂.TypeIs o T/\wpAny (model prog w) A (getItem o i) Q E s₂) E s₁) E s) :
    wpAny (model prog w) A (eval (.Subscript value slice pos) env) Q E s:=by
  refine Subscript_ (wpAny_mono h (fun o s₁ h₁=>wpAny_mono h₁ (fun i s₂ h₂=>?_) fun _ _ x=>x) fun _ _ x=>x)
  obtain⟨hT,h₂⟩:=h₂
  unfold subscriptTail
  refine wpAny_bind ?_
  rw[getitemInPython_of_ne hT.not_modules]
  refine wpAny_bind (wpAny_specialOf hT hl ?_)
  have fin:wpAny (model prog w) A (subscripted slice false o i) (fun r s₃=>wpAny (model prog w) A (letTemporaryGo value o r >>= fun _=>pure r) Q E s₃) E s₂:=by
    rw[hs o i]
    exact wpAny_operating (wpAny_mono h₂ (fun r s₃ h₃=>wpAny_bind (wpAny_letTemporaryGo (wpAny_pure h₃))) fun _ _ x=>x)
  first
    | exact wpAny_pure (wpAny_bind fin)
    | exact wpAny_bind (wpAny_pure (wpAny_bind fin))
    | exact wpAny_bind fin
theorem dict_typeIs {X:Cx} {pins:List (Addr × Obj)} {σ:St} {H:Hp} {s:Shared} {a:Addr} {y:V} {o:Option V} (I:Inv X pins σ H s) (g:DGet H a y o):s.TypeIs (.ref a) "dict":=by
  rcases g with ⟨kvs,k,e,_,_⟩ | ⟨kvs,k,b,e,_,_,_⟩
  · obtain⟨_,_,vs,_,dd⟩:=dk_rd I.hok e
    exact dd.typeIs
  · obtain⟨_,_,xs,_,dd⟩:=dt_rd I.hok e
    exact dd.typeIs
def tDGet (td ty:TE):TE:=fun σ H Q=>td σ H fun x H1=>ty σ H1 fun y H2=>∃ a v,x=.ref a/\DGet H2 a y (some v)/\Q v H2
section
variable {X:Cx} {o i e value:Expr} {pos pos' tpos:Pos} {td ty tv:TE}
theorem pe_dget (hu:X.A.units+1 < cLine) (ho:PE X o td) (hi:PE X i ty) (hs:NoSl i):PE X (.Subscript o i pos) (tDGet td ty):=by
  intro pins s σ H Q I h
  refine subD_of PySem.F.slot_dict_getitem.lookup hs (thn (ho pins s σ H _ I h) fun u s1 ⟨x,H1,I1,rx,q1⟩=>thn (hi pins s1 σ H1 _ I1 q1) fun iv s2 ⟨y,H2,I2,ry,a,v,ex,g,q2⟩=>?_)
  subst ex
  obtain rfl:u=Value.ref a:=rx
  exact⟨dict_typeIs I2 g,d_getItem hu I2 g ry fun w' s3 I3 rw'=>⟨v,H2,I3,rw',q2⟩⟩
end
theorem dk_empty {P:Program} {w:World} {H:Hp} (h:Heap) (hb:sysModules < h.objs.size):ObjOk P w H (h.push { cls:=.type "dict",data:=.dict #[] }) h.objs.size (.dK []):=
  ⟨Nat.zero_le _,beq_eq_false_iff_ne.mpr (Ne.symm (Nat.ne_of_lt hb)),[],.nil,Heap.DictOf.new h⟩
section
variable {X:Cx} {pos:Pos}
end
def tPairs:List (TE × TE)->St->Hp->(List (V × V)->Hp->Prop)->Prop
  | [],_,H,Q=>Q [] H
  | (tk,tv)::r,σ,H,Q=>tk σ H fun x H1=>tv σ H1 fun y H2=>tPairs r σ H2 fun ps H3=>Q ((x,y)::ps) H3
abbrev VV:List (V × V)->List (Value × Value)->Prop:=Paired fun p q=>RelV p.1 q.1/\RelV p.2 q.2
def PPs (X:Cx) (pos:Pos) (keys:List (Option Expr)) (values:List Expr) (trs:List (TE × TE)):Prop:=
  ∀ (pins:List (Addr × Obj)) (s:Shared) (σ:St) (H:Hp) (Q:List (V × V)->Hp->Prop),Inv X pins σ H s->tPairs trs σ H Q ->
    wpAny (model X.prog X.w) X.A (evalPairs (pairTrees keys values X.env pos)) (fun vs s'=>∃ ps H',Inv X pins σ H' s'/\VV ps vs/\Q ps H') X.xe s
theorem pps_nil {X:Cx} {pos:Pos}:PPs X pos [] [] []:=fun pins s σ H Q I h=>pairTrees_nil_walk ⟨[],H,I,.nil,h⟩
theorem pps_cons {X:Cx} {pos:Pos} {k v:Expr} {ks:List (Option Expr)} {vs:List Expr} {tk tv:TE} {trs:List (TE × TE)} (hk:PE X k tk) (hv:PE X v tv) (hr:PPs X pos ks vs trs) :
    PPs X pos (some k::ks) (v::vs) ((tk,tv)::trs):=fun pins s σ H Q I h=>
  pairTrees_cons_walk (thn (hk pins s σ H _ I h) fun u s1 ⟨x,H1,I1,rx,q1⟩=>thn (hv pins s1 σ H1 _ I1 q1) fun w2 s2 ⟨y,H2,I2,ry,q2⟩=>
    thn (hr pins s2 σ H2 _ I2 q2) fun ws s3 ⟨ps,H3,I3,rel,q3⟩=>⟨(x,y)::ps,H3,I3,.cons ⟨rx,ry⟩ rel,q3⟩)
noncomputable def mergeK (kvs more:List (Key × V)):List (Key × V):=more.foldl (fun acc kv=>putK acc kv.1 kv.2) kvs
theorem KV.merge:∀ {more:List (Key × V)} {rs:List (Key × Value)} {kvs:List (Key × V)} {vs:List (Key × Value)},KV more rs->KV kvs vs->KV (mergeK kvs more) (merged vs rs):=by
  intro more rs kvs vs r
  unfold KV at r
  induction r generalizing kvs vs with
  | nil=>intro q;exact q
  | @cons p q ps qs h t ih=>
    intro r0
    have e:KV (putK kvs p.1 p.2) (stored vs q.1 q.2):=by
      have:=r0.put p.1 h.2
      rw[<- h.1];exact this
    exact ih e
theorem length_mergeK:∀ (more kvs:List (Key × V)),(mergeK kvs more).length <= kvs.length+more.length
  | [],kvs=>by show kvs.length <= kvs.length+0;omega
  | p::r,kvs=>by
    have h1:=length_mergeK r (putK kvs p.1 p.2)
    have h2:=length_putK kvs p.1 p.2
    show (mergeK (putK kvs p.1 p.2) r).length <= _
    rw[List.length_cons];omega
theorem carries_of {P:Program} {w:World}:∀ {kvs:List (Key × V)} {ws:List (Value × Value)},VV (kvs.map fun kv=>(kV kv.1,kv.2)) ws->∃ rs,Carries (mixKind P w) ws rs/\KV kvs rs
  | [],_,r=>by rw[List.map_nil] at r;cases r;exact⟨[],True.intro,.nil⟩
  | p::kvs,_,r=>by
    rw[List.map_cons] at r
    cases r with
    | @cons a b as bs h t=>
      obtain⟨rs,c,q⟩:=carries_of (P:=P) (w:=w) t
      obtain⟨b1,b2⟩:=b
      exact⟨(p.1,b2)::rs,⟨kV_is h.1,rfl,c⟩,.cons ⟨rfl,h.2⟩ q⟩
def tDisp (trs:List (TE × TE)):TE:=fun σ H Q=>∀ p,H p=none->tPairs trs σ (upd H p (.dK [])) fun ps H2=>H2 p=some (.dK [])/\∃ kvs:List (Key × V),ps=kvs.map (fun kv=>(kV kv.1,kv.2))/\kvs.length <= 15/\Q (.ref p) (upd H2 p (.dK (mergeK [] kvs)))
theorem pe_disp {X:Cx} {pos:Pos} {keys:List (Option Expr)} {values:List Expr} {trs:List (TE × TE)} (h:PPs X pos keys values trs) (hall:keys.all (·.isSome)=true) (hl:keys.length=values.length) (h0:keys ≠ [])
    (h15:keys.length <= 15):PE X (.Dict keys values pos) (tDisp trs):=by
  intro pins s σ H Q I q
  have hn:=I.hok.fresh (Nat.le_refl s.heap.objs.size)
  have I1:=I.laid (a:=s.heap.objs.size) (o:=.dK []) (h':=s.heap.push { cls:=.type "dict",data:=.dict #[] }) (t':=s.toks) (fun _ _ q=>Heap.get?_push_of_some _ q) (Nat.le_refl _) (dk_empty s.heap I.big)
  refine wpAny_Dict_walk (knd:=mixKind X.prog X.w) hall hl h0 h15 (thn (h pins _ σ _ _ I1 (q _ hn)) fun ws s2 ⟨ps,H2,I2,rel,e,kvs,ep,lk,q2⟩=>?_)
  subst ep
  obtain⟨rs,c,rk⟩:=carries_of (P:=X.prog) (w:=X.w) rel
  obtain⟨z,hd,vs0,r0,dd⟩:=dk_of I2.hok e
  cases r0
  refine⟨rs,c,dd,fun h' dd' hs=>⟨.ref s.heap.objs.size,_,?_,rfl,q2⟩⟩
  have hz:(mergeK [] kvs).length <= sizeLine:=by
    have h1:=length_mergeK kvs []
    rw[List.length_nil] at h1
    rw[sizeLine_eq];omega
  have he:∃ q,h'.get? s.heap.objs.size=some q:=let ⟨q,_,_,hq,_⟩:=dd';⟨q,hq⟩
  exact d_write I2 (by rw[e];exact True.intro) hs he (dk_new hz hd (rk.merge .nil) dd')
section
variable {X:Cx} {pins:List (Addr × Obj)} {σ:St} {H:Hp} {s:Shared} {a:Addr} {y d:V} {u r:Value} {o:Option V} {A:Around} {E:Value->Shared->Prop}
end
section
variable {X:Cx} {o e f:Expr} {apos cpos:Pos} {td ty tx:TE}
end
section
variable {X:Cx} {pins:List (Addr × Obj)} {σ:St} {H:Hp} {s:Shared} {a:Addr} {kvs:List (Key × V)} {A:Around} {E:Value->Shared->Prop}
end
section
variable {X:Cx} {pins:List (Addr × Obj)} {σ:St} {H:Hp} {s:Shared} {a:Addr} {y:V} {u:Value} {A:Around} {E:Value->Shared->Prop}
end
end L2
namespace L2
open PySem PySem.Spec PyProof.Rows
section
variable {X:Cx}
end
section
variable {κ:Type} [DecidableEq κ]
end
end L2
namespace L2
open PySem PySem.Spec PyProof.Rows
section
variable {X:Cx}
end
end L2
namespace L2
open PySem PySem.Spec PyProof.Rows
section
variable {X:Cx} {tg:Expr}
end
end L2
namespace L2
open PySem PySem.Spec PySem.Calls PyProof.Rows Builtin Builtin.Str
section
variable {X:Cx}
end
end L2
namespace L2
open PySem PySem.Spec PySem.Calls PyProof.Rows Builtin Builtin.Tuple
section
variable {X:Cx}
end
end L2
namespace L2
open PySem PySem.Spec PyProof.Rows
section
variable {X:Cx} {pins:List (Addr × Obj)} {σ:St} {H:Hp} {s:Shared} {h':Heap}
theorem Inv.turnedT {t':Nat} {wr:List Addr} {T:Addr} {vs:List V} {its:List Value} (I:Inv X pins σ H s) (k:∀ b o,b ∉ wr->s.heap.get? b=some o->h'.get? b=some o) (hf:∀ b ∈ wr,FpOk X pins H b)
    (hT:s.heap.objs.size <= T) (hz:vs.length <= sizeLine) (hv:Vals vs its) (ht:IsTup h' T its.toArray) (hnd:TpN vs h' T):Inv X pins σ (upd H T (.tup vs)) { s with heap:=h',toks:=t' }:=by
  have hn:H T=none:=I.hok.fresh hT
  have nw:∀ b u,H b=some u->b ∉ wr:=fun b u e z=>by
    have:=(hf b z).1
    rw[this] at e
    cases e
  have nT:∀ b o,s.heap.get? b=some o->b ≠ T:=fun b o e z=>by
    subst z
    exact absurd (Nat.lt_of_lt_of_le (Heap.lt_size e) hT) (Nat.lt_irrefl _)
  refine I.step (H':=upd H T (.tup vs)) (g':=s.gens) (d':=s.drawn) (ch:=wr) (fun b hb=>?_) (fun b o _ _ hc e _=>k b o hc e) (fun b o _ _ hc e _=>⟨o.slots,k b o hc e⟩) (fun b o _ e n=>by rw[upd_ne (nT b o e)];exact n)
    (fun b o hc e=>⟨o,k b o hc e⟩) (fun b xs e=>by rw[upd_ne (ne_of_none e hn)];exact e) (fun b o u e=>by rw[upd_ne (ne_of_none e hn)];exact e) (fun b ps e=>⟨#[],by rw[upd_ne (ne_of_none e hn),e];simp⟩) (fun m hm=>?_) (fun b u e=>?_) I.bare
  · obtain⟨f0,f1,f2,f3,f4,f5⟩:=hf b hb
    exact⟨f3,f1,f4,f5⟩
  · obtain⟨o,es,ep,ho,r⟩:=hm
    exact⟨o,es,ep,k _ o (fun z=>(hf _ z).2.1 rfl) ho,r⟩
  · by_cases hb:b=T
    · subst hb
      rw[upd_same] at e
      cases e
      exact⟨⟨hz,hnd⟩,its,hv,ht⟩
    · rw[upd_ne hb] at e
      refine (I.hok b u e).stay (fun c v hc q=>k c v ?_ q) (fun c q=>by rw[upd_ne (ne_of_none q hn)];exact q) fun c xs q=>by rw[upd_ne (ne_of_none q hn)];exact q
      rcases hc with z | z
      · rw[z];exact nw b u e
      · exact nw c _ z
theorem Inv.turnedL {t':Nat} {wr:List Addr} (I:Inv X pins σ H s) (k:∀ b o,b ∉ wr->s.heap.get? b=some o->h'.get? b=some o) (hf:∀ b ∈ wr,FpOk X pins H b):Inv X pins σ H { s with heap:=h',toks:=t' }:=by
  have nw:∀ b u,H b=some u->b ∉ wr:=fun b u e z=>by
    have:=(hf b z).1
    rw[this] at e
    cases e
  refine I.step (g':=s.gens) (d':=s.drawn) (ch:=wr) (fun b hb=>?_) (fun b o _ _ hc e _=>k b o hc e) (fun b o _ _ hc e _=>⟨o.slots,k b o hc e⟩) (fun _ _ _ _ n=>n)
    (fun b o hc e=>⟨o,k b o hc e⟩) (fun _ _ e=>e) (fun _ _ _ e=>e) (fun b ps e=>⟨#[],by rw[e];simp⟩) (fun m hm=>?_) (fun b u e=>?_) I.bare
  · obtain⟨f0,f1,f2,f3,f4,f5⟩:=hf b hb
    exact⟨f3,f1,f4,f5⟩
  · obtain⟨o,es,ep,ho,r⟩:=hm
    exact⟨o,es,ep,k _ o (fun z=>(hf _ z).2.1 rfl) ho,r⟩
  · refine (I.hok b u e).stay (fun c v hc q=>k c v ?_ q) (fun _ q=>q) fun _ _ q=>q
    rcases hc with z | z
    · rw[z];exact nw b u e
    · exact nw c _ z
end
def ItW (n:Nat) (G:Hp->Prop) (R:Nat->List V->Prop):It:=
  ⟨fun i H=>i < n/\G H,fun i H x H'=>∃ T vs,x=.ref T/\H T=none/\R i vs/\H'=upd H T (.tup vs),fun i H=>i=n/\G H⟩
theorem for_wt {n:Nat} {G:Hp->Prop} {R:Nat->List V->Prop} {g:TG} {tb:TS} {D:Ends} {σ:St} {H:Hp} (Pv:Nat->St->Hp->Prop) (h0:Pv 0 σ H) (hg:∀ i σ H,i <= n->Pv i σ H->G H)
    (hs:∀ i T vs σ H,i < n->R i vs->Pv i σ H->H T=none->g (.ref T) σ (upd H T (.tup vs)) fun σ2 H2=>tb { D with nx:=Pv (i+1),ct:=Pv (i+1),bk:=D.nx } σ2 H2) (hd:∀ σ H,Pv n σ H->D.nx σ H) :
    ∃ W:Nat->Nat->St->Hp->Prop,(∃ m,W 0 m σ H)/\∀ i m σ H,W i m σ H ->
      ((ItW n G R).stop i H/\D.nx σ H)\/((ItW n G R).go i H/\∃ N:St->Hp->Prop,(∀ σ' H',N σ' H'->∃ m',m' < m/\W (i+1) m' σ' H')/\∀ x H',(ItW n G R).yld i H x H'->g x σ H' fun σ2 H2=>tb { D with nx:=N,ct:=N,bk:=D.nx } σ2 H2):=by
  refine⟨fun i m σ H=>m=n - i/\i <= n/\Pv i σ H,⟨n,by simp,Nat.zero_le _,h0⟩,?_⟩
  rintro i m σ H ⟨rfl,hi,p⟩
  have q:=hg i σ H hi p
  by_cases hlt:i < n
  · refine .inr ⟨⟨hlt,q⟩,Pv (i+1),fun σ' H' p'=>⟨n - (i+1),by omega,rfl,hlt,p'⟩,fun x H' y=>?_⟩
    obtain⟨T,vs,rfl,hT,r,rfl⟩:=y
    exact hs i T vs σ H hlt r p hT
  · have e:i=n:=by omega
    subst e
    exact .inl ⟨⟨rfl,q⟩,hd σ H p⟩
section
variable {X:Cx} {elts:List Expr} {k:Nat} {tpos:Pos}
end
end L2
namespace L2
open PySem PySem.Spec PyProof.Rows
theorem ps_setC {X:Cx} {elt iter:Expr} {ifs:List Expr} {sc:Scope} {pos px py spos:Pos} {t y:Str} {ys:List Str} {js:List Nat} {wi:TI} {tc:TT} {te:TE} {g:TG} (hc:X.calm=true) (hck:compChk X.N X.env.scope sc t ys js=true)
    (hi:PI X (.Name t px) iter wi) (hf:∀ cl C s H fp,PIf (X.comp sc cl C (t::ys) s H fp) ifs tc) (he:∀ cl C s H fp,PE (X.comp sc cl C (t::ys) s H fp) elt te) (hg:PG X (.Name y py) g)
    (hsw:swapsWith (.ListComp elt [⟨.Name t px,iter,ifs,0⟩] sc pos) (some (.Name y py)) spos.line X.env=pure true) (hs:∀ x,foldedSetIterable iter X.env x=pure x:=by intro _;rfl) :
    PS X (.Assign [.Name y py] (.ListComp elt [⟨.Name t px,iter,ifs,0⟩] sc pos) spos) (tAsg (tComp wi js tc te) g):=by
  have ck:=compOk_of hck
  intro pins s σ H D0 I h
  have hfr:∀ x,(x,NameKind.free) ∈ sc.names->∃ c,X.env.cells.lookup x=some c:=fun x hx=>I.ok.has x (.inl (ck.fre _ hx rfl))
  obtain⟨cl,hcl,cl1,cl2⟩:=clos_ok hfr
  rw[exec_Assign_Name_used _ _ _ _ hsw]
  refine wpAny_bind (wpAny_standAt (wpAny_bind ?_))
  show wpAny _ X.A (do let _ <- comprehension (.ListComp elt [⟨.Name t px,iter,ifs,0⟩] sc pos) sc X.env _ (newList []) false (eval iter X.env) (some (assign (.Name y py) X.env))) _ _ s
  refine wpAny_bind (wpAny_mono (wpAny_comprehension_free (use:=some (assign (.Name y py) X.env)) (Q:=fun _ s'=>SP X pins D0 .next s') rfl hs hcl ck.kind ck.loc (thn (hi pins s σ H _ I h) fun v s1 h1=>thn h1 fun itv s2 h2=>?_)) (fun _ s' hq=>wpAny_pure (wpAny_pure hq)) fun _ _ e=>e)
  obtain⟨it,fp,tn,J,H2,e,I2,T,st2,f2,hR⟩:=h2
  subst e
  refine wpAny_newObj_type (wpAny_newFunctionEnv ck.ncell (by intro y hy;simp at hy) (fun h1 hns hsb=>?_) ck.kind)
  dsimp only at hns hsb ⊢
  generalize hp:s2.heap.push { cls:=.type "list",dict:=none,data:=.seq ([]:List Value).toArray }=hh at hns hsb ⊢
  have hC:hh.objs.size=s2.heap.objs.size+1:=by rw[<- hp,Heap.size_push]
  have neD:∀ {b:Addr},b < s2.heap.objs.size->b ≠ s2.heap.objs.size:=fun hb=>Nat.ne_of_lt hb
  have neC:∀ {b:Addr},b < s2.heap.objs.size->b ≠ hh.objs.size:=fun hb=>by rw[hC];exact Nat.ne_of_lt (Nat.lt_succ_of_lt hb)
  have hDC:s2.heap.objs.size ≠ hh.objs.size:=by rw[hC];exact Nat.ne_of_lt (Nat.lt_succ_self _)
  have hCle:s2.heap.objs.size <= hh.objs.size:=by rw[hC];exact Nat.le_succ _
  have old:∀ b o,s2.heap.get? b=some o->h1.get? b=some o:=fun b o e=>hsb.extBut b o (neC (Heap.lt_size e)) (Heap.get?_push_of_some _ (hp ▸ Heap.get?_push_of_some _ e))
  have hnew:h1.get? s2.heap.objs.size=some { cls:=.type "list",dict:=none,data:=.seq ([]:List Value).toArray }:=hsb.extBut _ _ hDC (Heap.get?_push_of_some _ (hp ▸ Heap.get?_push_size _ rfl))
  have fpH:∀ b ∈ fp,∃ o,s2.heap.get? b=some o:=fun b hb=>let ⟨o,e,_⟩:=T.obj 0 _ st2 b hb;⟨o,e⟩
  have fpD:∀ b ∈ fp,b ≠ s2.heap.objs.size:=fun b hb=>by obtain⟨o,e⟩:=fpH b hb;exact neD (Heap.lt_size e)
  have fpC:∀ b ∈ fp,b ≠ hh.objs.size:=fun b hb=>by obtain⟨o,e⟩:=fpH b hb;exact neC (Heap.lt_size e)
  have fpS:∀ b ∈ fp,b ∉ frs X.stack:=fun b hb z=>(List.mem_cons.mp (I2.stkSub b z)).elim (f2 b hb).2.1 (f2 b hb).2.2.1
  have hok':(X.comp sc cl hh.objs.size (t::ys) s2 H2 fp).Ok:=by
    refine⟨I2.ok.mod,ck.kind,I2.ok.glob,I2.ok.blt,hCle,fun x y c a b=>I2.ok.inj x y c (cl1 x c a) (cl1 y c b),fun x hx=>?_,(fun x c z=>nomatch z),I2.ok.hd,I2.ok.frames,.inl rfl,fun b hb=>⟨fpC b hb,fun x c a=>(f2 b hb).2.2.2.2.1 x c (cl1 x c a)⟩,
      I2.bs,Nat.le_trans I2.ok.bsz I2.sz,fun b o e hb=>?_,fun b hb=>fpS b hb,I2.stack,I2.stkFree⟩
    · have hx':(sc.names.map fun (n,k)=>if (k == NameKind.free && X.env.scope.kind == .function && X.env.kindOf n == some .cell) then (n,NameKind.cell) else (n,k)).lookup x=some .cell\/(sc.names.map fun (n,k)=>if (k == NameKind.free && X.env.scope.kind == .function && X.env.kindOf n == some .cell) then (n,NameKind.cell) else (n,k)).lookup x=some .free:=hx
      rcases hx' with z | z
      · rcases relabel_inv z with q | ⟨_,q⟩
        · exact absurd rfl (ck.ncell _ (PySem.mem_of_lookup q))
        · exact cl2 x (PySem.mem_of_lookup q)
      · rcases relabel_inv z with q | ⟨q,_⟩
        · exact cl2 x (PySem.mem_of_lookup q)
        · cases q
    · rcases (f2 b hb).2.2.2.1 with z | z
      · exact I2.ok.noex b o e z
      · exact absurd (Nat.lt_of_lt_of_le (Heap.lt_size e) (Nat.le_trans I2.ok.bsz z)) (Nat.lt_irrefl _)
  have Iin:∀ tk:Nat,Inv (X.comp sc cl hh.objs.size (t::ys) s2 H2 fp) [] (none::compS js σ) (upd H2 s2.heap.objs.size (.lst [])) { s2 with heap:=h1,toks:=tk }:=fun tk=>by
    refine⟨hok',rfl,I2.bare,Un.laid old (Nat.le_refl _) I2.fresh,⟨_,hns,fun i x v e1 e2 e3=>?_⟩,fun x c e=>?_,?_,fun x c e=>?_,fun p hp=>absurd (show p ∈ ([]:List (Addr × Obj)) from hp) (by simp),I2.hok.laid old (Nat.le_refl _) ⟨Nat.zero_le _,[],0,.nil,hnew⟩,?_⟩
    · cases i with
      | zero=>simp at e2
      | succ k=>
        have e1':ys[k]?=some x:=e1
        have e2':(compS js σ)[k]?=some (some v):=by simpa using e2
        unfold compS at e2'
        rw[List.getElem?_map] at e2'
        have q:=congrArg (fun l=>l[k]?) ck.ysj
        simp only[List.getElem?_map,e1',Option.map_some] at q
        cases hj:js[k]? with
        | none=>rw[hj] at q;cases q
        | some j=>
          rw[hj] at q e2'
          have q1:X.N[j]?=some x:=(Option.some.inj q).symm
          have q2:σ[j]?=some (some v):=by
            have z:(σ[j]?).join=some v:=Option.some.inj e2'
            cases hz:σ[j]? with
            | none=>rw[hz] at z;cases z
            | some y=>rw[hz] at z;exact congrArg some z
          have hf':=ck.ysf x (List.mem_of_getElem? e1')
          have hcell:=ck.fre _ (PySem.mem_of_lookup hf') rfl
          obtain⟨m2,hn2,hl2⟩:=I2.loc
          obtain⟨u,ru,lk⟩:=hl2 j x v q1 q2 (.inr (.inl hcell))
          refine⟨u,ru,?_⟩
          rcases lk with ⟨kk,_⟩ | ⟨_,c,ec,ic⟩
          · have kk':X.env.scope.names.lookup x=some .local:=kk
            have hcell':X.env.scope.names.lookup x=some .cell:=hcell
            rw[hcell'] at kk';cases kk'
          · obtain⟨c',ec'⟩:=cl2 x (PySem.mem_of_lookup hf')
            have:c'=c:=Option.some.inj ((cl1 x c' ec').symm.trans ec)
            subst this
            refine .inr ⟨relabel_free hf',c',ec',?_⟩
            obtain⟨o,ho,hd⟩:=ic
            exact⟨o,old _ o ho,hd⟩
    · obtain⟨v,o,ho,hd⟩:=I2.cell x c (cl1 x c e)
      exact⟨v,o,old _ o ho,hd⟩
    · show upd H2 s2.heap.objs.size _ hh.objs.size=none
      rw[upd_ne (Ne.symm hDC)]
      exact I2.hok.fresh hCle
    · obtain⟨v,o,ho,hd⟩:=I2.cell x c (cl1 x c e)
      rw[upd_ne (neD (Heap.lt_size ho))]
      exact I2.freeC x c (cl1 x c e)
    · show (none::compS js σ).length=(t::ys).length
      have q:=congrArg List.length ck.ysj
      simp only[List.length_map] at q
      unfold compS
      simp only[List.length_cons,List.length_map]
      omega
  have st1:tn 0 h1:=T.keep _ _ _ st2 fun b hb o e=>old b o e
  obtain⟨W,⟨m0,w0⟩,turn⟩:=hR s2.heap.objs.size I2.fresh
  have fpok:∀ {H':Hp},(∀ b ∈ fp,H' b=none)->∀ b ∈ fp,FpOk (X.comp sc cl hh.objs.size (t::ys) s2 H2 fp) [] H' b:=fun hn b hb=>
    ⟨hn b hb,fpC b hb,fpS b hb,.inl hb,fun x c a=>(f2 b hb).2.2.2.2.1 x c (cl1 x c a),fun p hp=>absurd (show p ∈ ([]:List (Addr × Obj)) from hp) (by simp)⟩
  have ndN:(t::ys).Nodup:=ck.nd
  have loop:∀ s3:Shared,s3={ s2 with heap:=h1,toks:=s2.toks+([]:List (Str × Value)).length } ->
      codeAny (model X.prog X.w) X.A (.compLoop (.ListComp elt [⟨.Name t px,iter,ifs,0⟩] sc pos) 0 (.ref it) (.ref s2.heap.objs.size) (compEnvC sc cl hh.objs.size X.env))
        (compPost (model X.prog X.w) X.A X.xe (some (assign (.Name y py) X.env)) (fun _ s'=>SP X pins D0 .next s') (.ref s2.heap.objs.size) hh.objs.size) s3:=by
    rintro s3 rfl
    refine comp_turns (fun n s'=>∃ i acc H',Inv (X.comp sc cl hh.objs.size (t::ys) s2 H2 fp) [] (none::compS js σ) H' s'/\tn i s'.heap/\(∀ b ∈ fp,H' b=none)/\W i n acc H') ?_ m0
      ⟨0,[],_,Iin _,st1,fun b hb=>by rw[upd_ne (fpD b hb)];exact (f2 b hb).1,w0⟩
    rintro n s3 ⟨i,acc,H3,I3,st3,fr3,w3⟩
    obtain⟨hD,hz,alt⟩:=turn i n acc H3 w3
    rcases alt with ⟨stop,q⟩ | ⟨go,step⟩
    · refine thn (T.done (X.comp sc cl hh.objs.size (t::ys) s2 H2 fp) rfl rfl rfl hc i [] s3 _ H3 _ I3 (fpok fr3) st3 stop) fun r s4 ⟨hr,I4⟩=>?_
      subst hr
      obtain⟨m,hn,_⟩:=id I4.loc
      have ltC:∀ b o,s2.heap.get? b=some o->b ≠ hh.objs.size:=fun b o e=>neC (Heap.lt_size e)
      have b4:Un (frs X.stack) fp H2 H3 s2.heap s4.heap:=I4.base
      have I5:Inv X pins σ H3 s4:=I2.call' (s':=s4) (ch:=fp) I4.os ⟨fun b o e n1 n2 n3=>b4.keep b o e n1 n2 n3,fun b o e n1 n2 n3=>b4.slot b o e n1 n2 n3,b4.free,fun b o e n1=>b4.there b o e n1,b4.tups,b4.frzs,b4.tbls⟩ (fun b ob e=>I4.hok b ob e) I4.bare
        (fun b hb=>⟨(f2 b hb).2.2.2.1,(f2 b hb).2.1,(f2 b hb).2.2.2.2.1,(f2 b hb).2.2.2.2.2⟩)
      have fC:FpOk X pins H3 hh.objs.size:=I2.fpOk hCle I4.free
      obtain⟨oC,es,ep,hoC,dC,rC⟩:=id hn
      have I6:Inv X (pins++[(hh.objs.size,oC)]) σ H3 s4:=I5.pins_of fun p hp=>(List.mem_append.mp hp).elim (fun z=>I5.pin p (List.mem_append_right _ z)) fun z=>by
        rw[List.mem_singleton.mp z]
        exact⟨hoC,fC.1,fC.2.1,fC.2.2.1,fun v z=>by rw[dC] at z;cases z⟩
      show wpAny _ X.A (assign (.Name y py) X.env (.ref s2.heap.objs.size)) _ _ s4
      refine thn (hg _ s4 σ H3 (.ref s2.heap.objs.size) _ _ I6 rfl q) fun _ s7 ⟨σ7,H7,I7,q7⟩=>?_
      obtain⟨p1,p2,p3,p4,p5⟩:=I7.pin (hh.objs.size,oC) (List.mem_append_right _ (List.mem_append_right _ (List.mem_singleton.mpr rfl)))
      refine⟨m,⟨oC,es,ep,p1,dC,rC⟩,fun h' sb=>⟨σ7,H7,?_,q7⟩⟩
      exact I7.unpinned.turned (t':=s7.toks) (fun b o hb e=>(sb.2 b hb).trans e) p2 p3 fC.2.2.2.1 fC.2.2.2.2.1 fC.2.2.2.2.2
    · refine thn (T.item (X.comp sc cl hh.objs.size (t::ys) s2 H2 fp) rfl rfl rfl hc i [] s3 _ H3 _ I3 (fpok fr3) st3 go) fun r s4 ⟨u,hr,h4⟩=>?_
      subst hr
      refine thn h4 fun _ s5 ⟨x,H5,I5,r5,y5,st5,fr5⟩=>?_
      have I5':=I5.pinned (fpok fr5) (T.obj _ _ st5)
      refine wpAny_assign_Name (store_ok (i:=0) I5' ndN rfl (.inl (lookup_relabel_local ck.tl)) r5 (fun s6 I6=>?_) (.inr (lookup_relabel_local ck.tl)))
      have again:∀ {H7:Hp} {s7:Shared} {m':Nat} {acc':List V},Inv (X.comp sc cl hh.objs.size (t::ys) s2 H2 fp) ([]++pinsAt fp s5.heap) (some x::compS js σ) H7 s7->m' < n->W (i+1) m' acc' H7 ->
          ∃ m,m < n/\∃ i acc H',Inv (X.comp sc cl hh.objs.size (t::ys) s2 H2 fp) [] (none::compS js σ) H' s7/\tn i s7.heap/\(∀ b ∈ fp,H' b=none)/\W i m acc H':=fun {H7 s7 m' acc'} I7 hm w7=>by
        refine⟨m',hm,i+1,acc',H7,(I7.unpinned).weak rfl (fun k v e=>?_),T.keep _ _ _ st5 fun b hb o e=>(I7.pin (b,o) (List.mem_append_right _ (List.mem_append_right _ (mem_pinsAt hb e)))).1,fun b hb=>?_,w7⟩
        · cases k with
          | zero=>simp at e
          | succ k=>simpa using e
        · obtain⟨o,e,d⟩:=T.obj _ _ st5 b hb
          exact (I7.pin (b,o) (List.mem_append_right _ (List.mem_append_right _ (mem_pinsAt hb e)))).2.1
      refine thn (hf _ _ _ _ _ _ s6 _ H5 _ I6 (step x H5 y5)) fun ok s7 ⟨H7,I7,q7⟩=>?_
      cases ok with
      | false=>
        obtain⟨m',hm,w7⟩:=q7
        exact again I7 hm w7
      | true=>
        refine thn (he _ _ _ _ _ _ s7 _ H7 _ I7 q7) fun uy s8 ⟨y,H8,I8,r8,hD8,m',hm,w8⟩=>?_
        refine thn (mt_append (X:=X.comp sc cl hh.objs.size (t::ys) s2 H2 fp) _ s8 _ H8 (.ref s2.heap.objs.size) [y] (.ref s2.heap.objs.size) [uy] (fun _ H9=>W (i+1) m' (acc++[y]) H9) I8 rfl (.cons r8 .nil) ⟨_,acc,y,rfl,rfl,hD8,hz,w8⟩) fun _ s9 ⟨_,H9,I9,_,q9⟩=>?_
        exact again I9 hm q9
  exact codeAny_compStart_list (loop _ rfl) (T.self _ 0 _ _ _ st1 (loop _ rfl))
theorem qs_setC {X:Cx} {elt iter:Expr} {ifs:List Expr} {sc:Scope} {pos px py spos:Pos} {t y:Str} {ys:List Str} {js:List Nat} {wi:TI} {tc:TT} {te:TE} {g:TG} (hc:X.calm=true) (hck:compChk X.N X.env.scope sc t ys js=true)
    (hi:QI X (.Name t px) iter wi) (hf:∀ cl C s H fp,QIf (X.comp sc cl C (t::ys) s H fp) ifs tc) (he:∀ cl C s H fp,QE (X.comp sc cl C (t::ys) s H fp) elt te) (hg:QG X (.Name y py) g)
    (hsw:swapsWith (.ListComp elt [⟨.Name t px,iter,ifs,0⟩] sc pos) (some (.Name y py)) spos.line X.env=pure true) (hs:∀ x,foldedSetIterable iter X.env x=pure x:=by intro _;rfl) :
    QS X (.Assign [.Name y py] (.ListComp elt [⟨.Name t px,iter,ifs,0⟩] sc pos) spos) (tAsg (tComp wi js tc te) g):=⟨ps_setC hc hck hi.h (fun cl C s H fp=>(hf cl C s H fp).h) (fun cl C s H fp=>(he cl C s H fp).h) hg.h hsw hs⟩
end L2
namespace L2
open PySem PySem.Spec PyProof.Rows
section
variable {K:PySem.W.Frag} {a:Addr} {xs ys:List V} {js:List Nat} {g:TG} {n:Nat} {te:TE} {σ:St} {Q:VK} {D:Addr} {H1:Hp}
end
end L2
namespace L2
open PySem PySem.Spec PyProof.Rows
theorem lri_nolen:typeLookup (.type "list_reverseiterator") "__len__" = pure none:=by rw[typeLookup_type,builtinLookup_eq_fast];kernel_rfl
theorem lri_hint:typeLookup (.type "list_reverseiterator") "__length_hint__" = pure (some (.builtin "list_reverseiterator.__length_hint__")):=by rw[typeLookup_type,builtinLookup_eq_fast];kernel_rfl
section
variable {prog:Program} {w:World} {A:Around} {E:Value->Shared->Prop} {s:Shared}
theorem rev_extend {R:Result->Shared->Prop} {it l:Addr} {items:Array Value} (hh:A.handled=none) (hi:s.heap.IsRevIter it l ((items.size:Int) - 1)) (hl:s.heap.IsList l items) (nl:l ≠ it) (S:Addr) (nS:S ≠ it) (nSl:S ≠ l) (c0:Nat) (hS:s.heap.get? S=some { cls:=.type "list",data:=.seq #[] c0 })
    (hR:∀ h' tk acc c',(∀ b o,b ≠ S->b ≠ it->s.heap.get? b=some o->h'.get? b=some o)->h'.get? S=some { cls:=.type "list",dict:=none,data:=.seq acc c',slots:=#[] }->ItemsOf (fun i v=>items[items.size - 1 - i]?=some v) acc items.size->R (.ok (.ret .none)) { s with heap:=h',toks:=tk })
    (hn:items.size <= sizeLine):wpAny (model prog w) A.in1 (Builtin.List.listExtendWith (.ref S) (.ref it) .none) (fun fin s'=>match fin with | .done f=>R (.ok f) s' | .again c'=>c'.quiet=true/\codeAny (model prog w) A c' R s') (fun e s'=>R (.error e) s') s:=by
  have W:=(Walks.listRev (prog:=prog) (w:=w) (A:=A.in1) hh it l nl items).toS
  have st:(0:Nat) <= items.size/\s.heap.IsRevIter it l ((items.size:Int) - 1 - ((0:Nat):Int))/\s.heap.IsList l items:=⟨Nat.zero_le _,by simpa using hi,hl⟩
  have same:Builtin.List.listSameRef (.ref S) (.ref it)=false:=by simp[Builtin.List.listSameRef,nS]
  unfold Builtin.List.listExtendWith
  refine wpAny_bind (wpAny_typeOf hi.typeIs ?_)
  rw[if_neg (by rw[same];decide)]
  refine wpAny_bind (wpAny_pyIter_revIter hi (wpAny_bind (wpAny_holding ?_)))
  unfold Builtin.List.listLengthHint
  refine wpAny_bind (wpAny_specialOf hi.typeIs lri_nolen (show wpAny _ A.in1 (specialOf (Value.ref it) (Str.ofString "__length_hint__") >>= _) _ _ _ from wpAny_bind (wpAny_specialOf hi.typeIs lri_hint ?_)))
  generalize hid:("list_reverseiterator.__length_hint__" : String)=id0
  wp_delta
  rw[show splitId id0=some ("list_reverseiterator", "__length_hint__") from by subst hid;decide +kernel]
  subst hid
  refine wpAny_bind (wpAny_isInstance (b:=true) hi.typeIs (by rw[isSubtype_type];kernel_rfl) (wpAny_pure ?_))
  rw[if_neg (by decide)]
  refine wpAny_pure ⟨plainId_quiet F.plain_extend_loop _,codeAny_extend_loopS W hn S (by simp[nS,nSl]) .none items.size 0 _ #[] c0 rfl (Nat.zero_le _) st hS (ItemsOf.nil _) fun s' acc c' hm hS' ha=>?_⟩
  rw[Moved.eq_with hm]
  refine hR s'.heap s'.toks acc c' (fun b o hb hbi e=>hm.heap b o (fun z=>?_) e) hS' ha
  rcases List.mem_cons.mp z with z | z
  · exact hb z
  · exact hbi (List.mem_singleton.mp z)
theorem rev_list {it l:Addr} {items:Array Value} {Q:Value->Shared->Prop} (hh:A.handled=none) (hi:s.heap.IsRevIter it l ((items.size:Int) - 1)) (hl:s.heap.IsList l items) (nl:l ≠ it)
    (q:∀ h' tk acc c',(∀ b o,b ≠ it->s.heap.get? b=some o->h'.get? b=some o)->h'.get? s.heap.objs.size=some { cls:=.type "list",dict:=none,data:=.seq acc c',slots:=#[] }->ItemsOf (fun i v=>items[items.size - 1 - i]?=some v) acc items.size->Q (.ref s.heap.objs.size) { s with heap:=h',toks:=tk })
    (hn:items.size <= sizeLine):wpAny (model prog w) A (call (.type "list") [.ref it]) Q E s:=by
  refine callType_codes (Q₁:=fun obj s₁=>obj=.ref s.heap.objs.size/\s₁={ s with heap:=s.heap.push { cls:=.type "list",data:=.seq #[] } }) F.called_list (F.typeCall_list_1 _) F.entry_list_init (code_list_new _ ⟨rfl,rfl⟩) fun obj s₁ h₁=>?_
  obtain⟨rfl,rfl⟩:=h₁
  have hS:(s.heap.push { cls:=.type "list",data:=.seq #[] }).get? s.heap.objs.size=some { cls:=.type "list",data:=.seq #[] }:=Heap.get?_push_size _ rfl
  have li:it < s.heap.objs.size:=let ⟨_,e,_⟩:=hi;Heap.lt_size e
  have ll:l < s.heap.objs.size:=let ⟨_,e,_⟩:=hl;Heap.lt_size e
  refine⟨⟨_,hS,rfl⟩,F.args_list_init_2 _ _,?_⟩
  show wpAny _ _ (do let old <- Builtin.List.listItems (.ref s.heap.objs.size);Builtin.List.listUpdate (.ref s.heap.objs.size) (fun _=>#[]);letGo old.toList.reverse;Builtin.List.listExtendWith (.ref s.heap.objs.size) (.ref it) .none) _ _ _
  refine wpAny_bind ?_
  unfold Builtin.List.listItems
  refine wpAny_bind (wpAny_seqItems hS rfl (wpAny_pure (show wpAny _ _ (updateSeq s.heap.objs.size (fun _=>#[]) >>= fun _=>letGo (#[]:Array Value).toList.reverse >>= fun _=>Builtin.List.listExtendWith (.ref s.heap.objs.size) (.ref it) .none) _ _ _ from wpAny_bind (wpAny_updateSeq hS rfl (wpAny_bind (wpAny_letGo ?_))))))
  have hS2:=Heap.get?_update_self (Obj.mapSeq (fun _=>(#[]:Array Value))) hS rfl
  have ot:∀ b o,b ≠ s.heap.objs.size->s.heap.get? b=some o->((s.heap.push { cls:=.type "list",data:=.seq #[] }).update s.heap.objs.size (Obj.mapSeq (fun _=>(#[]:Array Value)))).get? b=some o:=fun b o hb e=>(Heap.get?_update_other _ _ (Ne.symm hb)).trans (Heap.get?_push_of_some _ e)
  have ni:it ≠ s.heap.objs.size:=Nat.ne_of_lt li
  have nl2:l ≠ s.heap.objs.size:=Nat.ne_of_lt ll
  refine rev_extend (A:=A.in1) hh (hi.at fun o e=>ot it o ni e) (hl.at fun o e=>ot l o nl2 e) nl _ (Ne.symm ni) (Ne.symm nl2) _ hS2 (fun h' tk acc c' hk hS' ha=>⟨rfl,q h' tk acc c' (fun b o hb e=>?_) hS' ha⟩) hn
  have nb:b ≠ s.heap.objs.size:=Nat.ne_of_lt (Heap.lt_size e)
  exact hk b o nb hb (ot b o nb e)
end
section
variable {X:Cx} {e:Expr} {te:TE} {p1 p2 q1 q2:Pos}
def tRevL (K:PySem.W.Frag) (te:TE):TE:=fun σ H Q=>te σ H fun x H1=>∃ l ys,x=.ref l/\SqL K H1 l ys/\∀ r,H1 r=none->Q (.ref r) (upd H1 r (.lst ys.reverse))
theorem rev_items {vs:List Value} {acc:Array Value} (h:ItemsOf (fun i v=>vs.toArray[vs.toArray.size - 1 - i]?=some v) acc vs.toArray.size):acc.toList=vs.reverse:=by
  obtain⟨h1,h2⟩:=h
  have hz:vs.toArray.size=vs.length:=by simp
  rw[hz] at h1 h2
  refine List.ext_getElem? fun i=>?_
  by_cases hi:i < vs.length
  · have e:acc.toList[i]?=some (acc[i]'(by omega)):=by simp[h1,hi]
    have e2:=h2 i (acc[i]'(by omega)) (by simp[h1,hi])
    rw[e,List.getElem?_reverse hi,<- e2]
    simp
  · rw[List.getElem?_eq_none (by simp[h1];omega),List.getElem?_eq_none (by simp;omega)]
theorem pe_listRev (hc:X.calm=true) (g1:Gl X "list") (m1:X.mg "list" = none) (g2:Gl X "reversed") (m2:X.mg "reversed" = none) (he:PE X e te)
    (hs2:starEach [e] X.env=[(false,eval e X.env)]:=by rfl) (hs1:starEach [.Call (.Name "reversed" p2) [e] [] q2] X.env=[(false,eval (.Call (.Name "reversed" p2) [e] [] q2) X.env)]:=by rfl) :
    PE X (.Call (.Name "list" p1) [.Call (.Name "reversed" p2) [e] [] q2] [] q1) (tRevL X.K te):=by
  intro pins s σ H Q I h
  refine Call_ (ld_blt I g1 m1 PyProof.Rows.boot_list (PyProof.Rows.callWith_type1 ?_ hs1 rfl))
  rw[hs1]
  show wpAny _ _ (spliced ((false,eval (.Call (.Name "reversed" p2) [e] [] q2) X.env)::backTo q1 [])) _ _ s
  refine Calls.spliced_cons (Call_ (ld_blt I g2 m2 boot_reversed (PyProof.Rows.callWith_type1 ?_ hs2 rfl)))
  rw[hs2]
  show wpAny _ _ (spliced ((false,eval e X.env)::backTo q2 [])) _ _ s
  refine Calls.spliced_cons (thn (he pins s σ H _ I h) fun u s1 ⟨x,H1,I1,r1,l,ys,ex,hq,k⟩=>?_)
  subst ex
  cases r1
  refine Calls.spliced_nil ?_
  obtain⟨vs,rv,pl,hz⟩:=I1.list hq
  have hl:=pl.isList
  have hlen:=rv.length
  have ll:l < s1.heap.objs.size:=let ⟨_,e,_⟩:=hl;Heap.lt_size e
  refine call_reversed_list hl (Calls.spliced_nil ?_)
  have nl:l ≠ s1.heap.objs.size:=Nat.ne_of_lt ll
  refine rev_list (items:=vs.toArray) (I1.ok.hd hc) ⟨_,Heap.get?_push_size _ rfl,rfl,rfl⟩ (hl.at fun o e=>Heap.get?_push_of_some _ e) nl (fun h' tk acc c' hk hS ha=>?_) (by simp;omega)
  have e:=rev_items ha
  have sz:(s1.heap.push (revObj l ((vs.toArray.size:Int) - 1))).objs.size=s1.heap.objs.size+1:=Heap.size_push ..
  rw[sz] at hS ⊢
  have fr:H1 (s1.heap.objs.size+1)=none:=I1.hok.fresh (Nat.le_succ _)
  refine⟨.ref (s1.heap.objs.size+1),_,I1.laid (t':=tk) (fun b u eb=>hk b u (Nat.ne_of_lt (Heap.lt_size eb)) (Heap.get?_push_of_some _ eb)) (Nat.le_succ _) (show ObjOk X.prog X.w _ h' _ (.lst ys.reverse) from ⟨by rw[List.length_reverse];omega,vs.reverse,c',rv.reverse,?_⟩),rfl,k _ fr⟩
  rw[hS,<- e]
theorem qe_listRev (hc:X.calm=true) (g1:Gl X "list") (m1:X.mg "list" = none) (g2:Gl X "reversed") (m2:X.mg "reversed" = none) (he:QE X e te)
    (hs2:starEach [e] X.env=[(false,eval e X.env)]:=by rfl) (hs1:starEach [.Call (.Name "reversed" p2) [e] [] q2] X.env=[(false,eval (.Call (.Name "reversed" p2) [e] [] q2) X.env)]:=by rfl) :
    QE X (.Call (.Name "list" p1) [.Call (.Name "reversed" p2) [e] [] q2] [] q1) (tRevL X.K te):=⟨pe_listRev hc g1 m1 g2 m2 he.h hs2 hs1⟩
end
end L2
namespace TM
open PySem L2
inductive Tm where
  | num (n:Int)
  | text (z:Str)
  | row
  | mark
  | val (k:Int) (z:Str)
  | call (w:Str) (ts:List Tm)
noncomputable def inner:Tm->List Tm
  | .call _ ts=>ts
  | _=>[]
mutual
noncomputable def parts:Tm->Int
  | .call _ ts=>1+partss ts
  | .num _=>1
  | .text _=>1
  | .row=>1
  | .mark=>1
  | .val _ _=>1
noncomputable def partss:List Tm->Int
  | []=>0
  | t::ts=>parts t+partss ts
end
mutual
noncomputable def depth:Tm->Nat
  | .call _ ts=>1+depths ts
  | .num _=>1
  | .text _=>1
  | .row=>1
  | .mark=>1
  | .val _ _=>1
noncomputable def depths:List Tm->Nat
  | []=>0
  | t::ts=>max (depth t) (depths ts)
end
abbrev Pr:=Int × Str
noncomputable def addTo (acc:List Pr) (p:Pr):List Pr:=if p ∈ acc then acc else acc++[p]
noncomputable def uni (acc ps:List Pr):List Pr:=ps.foldl addTo acc
mutual
noncomputable def named:Tm->List Pr
  | .val k z=>[(k,z)]
  | .call _ ts=>nameds [] ts
  | .num _=>[]
  | .text _=>[]
  | .row=>[]
  | .mark=>[]
noncomputable def nameds (acc:List Pr):List Tm->List Pr
  | []=>acc
  | t::ts=>nameds (uni acc (named t)) ts
end
theorem partss_eq:∀ ts:List Tm,partss ts=(ts.map parts).sum
  | []=>by unfold partss;rfl
  | t::ts=>by unfold partss;rw[List.map_cons,List.sum_cons,partss_eq ts]
theorem parts_eq (t:Tm):parts t=1+((inner t).map parts).sum:=by
  cases t with
  | call w ts=>rw[parts,partss_eq];rfl
  | _=>rw[parts];rfl
theorem depths_mem:∀ {ts:List Tm} {t:Tm},t ∈ ts->depth t <= depths ts
  | [],_,h=>nomatch h
  | x::ts,t,h=>by
    unfold depths
    rcases List.mem_cons.mp h with rfl | h
    · omega
    · have:=depths_mem h;omega
theorem depth_eq (t:Tm):depth t=1+depths (inner t):=by
  cases t with
  | call w ts=>rw[depth];rfl
  | _=>rw[depth];show 1=1+depths [];rw[depths]
theorem depth_inner {t u:Tm} (h:u ∈ inner t):depth u+1 <= depth t:=by
  rw[depth_eq t]
  have:=depths_mem h
  omega
theorem depth_pos (t:Tm):1 <= depth t:=by rw[depth_eq];omega
theorem nameds_eq:∀ (ts:List Tm) (acc:List Pr),nameds acc ts=ts.foldl (fun a t=>uni a (named t)) acc
  | [],acc=>by unfold nameds;rfl
  | t::ts,acc=>by unfold nameds;rw[nameds_eq ts,List.foldl_cons]
theorem addTo_nodup {acc:List Pr} (p:Pr) (h:acc.Nodup):(addTo acc p).Nodup:=by
  unfold addTo
  split
  · exact h
  · rename_i hp
    exact List.nodup_append.mpr ⟨h,List.nodup_cons.mpr ⟨by simp,List.nodup_nil⟩,fun a ha b hb=>by
      rw[List.mem_singleton] at hb
      subst hb
      rintro rfl
      exact hp ha⟩
theorem uni_nodup:∀ {ps acc:List Pr},acc.Nodup->(uni acc ps).Nodup
  | [],_,h=>h
  | p::ps,acc,h=>uni_nodup (ps:=ps) (addTo_nodup p h)
theorem nameds_nodup:∀ (ts:List Tm) {acc:List Pr},acc.Nodup->(nameds acc ts).Nodup
  | [],_,h=>by unfold nameds;exact h
  | t::ts,acc,h=>by unfold nameds;exact nameds_nodup ts (uni_nodup h)
theorem named_nodup (t:Tm):(named t).Nodup:=by
  cases t with
  | call w ts=>rw[named];exact nameds_nodup ts List.nodup_nil
  | val k z=>rw[named];exact List.nodup_cons.mpr ⟨by simp,List.nodup_nil⟩
  | _=>rw[named];exact List.nodup_nil
theorem uni_filter:∀ {ps acc:List Pr},ps.Nodup->uni acc ps=acc++ps.filter fun p=>!decide (p ∈ acc)
  | [],acc,_=>by simp[uni]
  | p::ps,acc,h=>by
    obtain⟨h1,h2⟩:=List.nodup_cons.mp h
    show uni (addTo acc p) ps=_
    rw[uni_filter h2]
    by_cases hp:p ∈ acc
    · have e:addTo acc p=acc:=by unfold addTo;rw[if_pos hp]
      rw[e,List.filter_cons_of_neg (by simp[hp])]
    · have e:addTo acc p=acc++[p]:=by unfold addTo;rw[if_neg hp]
      rw[e,List.filter_cons_of_pos (by simp[hp]),List.append_assoc]
      congr 1
      rw[List.singleton_append]
      congr 1
      refine List.filter_congr fun q hq=>?_
      have:q ≠ p:=fun z=>h1 (z ▸ hq)
      simp[this]
def SameT (H H':Hp):Prop:=∀ b xs,H b=some (.tup xs)->H' b=some (.tup xs)
theorem sameT {H H':Hp} (e:Same H H'):SameT H H':=fun b xs h=>e b _ h
theorem SameT.trans {H H1 H2:Hp} (a:SameT H H1) (b:SameT H1 H2):SameT H H2:=fun c xs h=>b c xs (a c xs h)
theorem sameT_lst {H:Hp} {r:Addr} {xs ys:List V} (h:H r=some (.lst xs)):SameT H (upd H r (.lst ys)):=fun b zs q=>by
  rw[upd_ne (ne_of q h (fun z=>nomatch z))]
  exact q
mutual
def TmIs (H:Hp):Tm->V->Prop
  | .num n,v=>∃ a,v=.ref a/\H a=some (.tup [.str "num",.int n])
  | .text z,v=>∃ a,v=.ref a/\H a=some (.tup [.str "text",.str z])
  | .row,v=>∃ a,v=.ref a/\H a=some (.tup [.str "row"])
  | .mark,v=>∃ a,v=.ref a/\H a=some (.tup [.str "mark"])
  | .val k z,v=>∃ a,v=.ref a/\H a=some (.tup [.str "of",.int k,.str z])
  | .call w ts,v=>∃ a b vs,v=.ref a/\H a=some (.tup [.str "call",.str w,.ref b])/\H b=some (.tup vs)/\vs.length <= 1000/\TmsIs H ts vs
def TmsIs (H:Hp):List Tm->List V->Prop
  | [],vs=>vs=[]
  | t::ts,vs=>∃ v r,vs=v::r/\TmIs H t v/\TmsIs H ts r
end
mutual
theorem TmIs.same {H H':Hp} (e:SameT H H'):∀ (t:Tm) {v:V},TmIs H t v->TmIs H' t v
  | .num n,v,h=>by unfold TmIs at h ⊢;obtain⟨a,x,y⟩:=h;exact⟨a,x,e _ _ y⟩
  | .text z,v,h=>by unfold TmIs at h ⊢;obtain⟨a,x,y⟩:=h;exact⟨a,x,e _ _ y⟩
  | .row,v,h=>by unfold TmIs at h ⊢;obtain⟨a,x,y⟩:=h;exact⟨a,x,e _ _ y⟩
  | .mark,v,h=>by unfold TmIs at h ⊢;obtain⟨a,x,y⟩:=h;exact⟨a,x,e _ _ y⟩
  | .val k z,v,h=>by unfold TmIs at h ⊢;obtain⟨a,x,y⟩:=h;exact⟨a,x,e _ _ y⟩
  | .call w ts,v,h=>by
    unfold TmIs at h ⊢
    obtain⟨a,b,vs,x,y,z,n,q⟩:=h
    exact⟨a,b,vs,x,e _ _ y,e _ _ z,n,TmsIs.same e ts q⟩
theorem TmsIs.same {H H':Hp} (e:SameT H H'):∀ (ts:List Tm) {vs:List V},TmsIs H ts vs->TmsIs H' ts vs
  | [],vs,h=>by unfold TmsIs at h ⊢;exact h
  | t::ts,vs,h=>by
    unfold TmsIs at h ⊢
    obtain⟨v,r,x,y,z⟩:=h
    exact⟨v,r,x,TmIs.same e t y,TmsIs.same e ts z⟩
end
theorem TmsIs.len {H:Hp}:∀ {ts:List Tm} {vs:List V},TmsIs H ts vs->ts.length=vs.length
  | [],vs,h=>by unfold TmsIs at h;subst h;rfl
  | t::ts,vs,h=>by
    unfold TmsIs at h
    obtain⟨v,r,rfl,_,z⟩:=h
    rw[List.length_cons,List.length_cons,TmsIs.len z]
theorem TmsIs.get {H:Hp}:∀ {ts:List Tm} {vs:List V} {i:Nat} {v:V},TmsIs H ts vs->vs[i]?=some v->∃ t,ts[i]?=some t/\TmIs H t v
  | [],vs,i,v,h,e=>by unfold TmsIs at h;subst h;simp at e
  | t::ts,vs,0,v,h,e=>by
    unfold TmsIs at h
    obtain⟨u,r,rfl,y,z⟩:=h
    simp at e
    subst e
    exact⟨t,rfl,y⟩
  | t::ts,vs,i+1,v,h,e=>by
    unfold TmsIs at h
    obtain⟨u,r,rfl,y,z⟩:=h
    obtain⟨x,hx,q⟩:=TmsIs.get (i:=i) z (by simpa using e)
    exact⟨x,by simpa using hx,q⟩
def IsP (H:Hp) (p:Pr) (v:V):Prop:=∃ a,v=.ref a/\H a=some (.tup [.int p.1,.str p.2])
def IsPs (H:Hp):List Pr->List V->Prop
  | [],vs=>vs=[]
  | p::ps,vs=>∃ v r,vs=v::r/\IsP H p v/\IsPs H ps r
theorem IsP.same {H H':Hp} (e:SameT H H') {p:Pr} {v:V} (h:IsP H p v):IsP H' p v:=by
  obtain⟨a,x,y⟩:=h
  exact⟨a,x,e _ _ y⟩
theorem IsPs.same {H H':Hp} (e:SameT H H'):∀ {ps:List Pr} {vs:List V},IsPs H ps vs->IsPs H' ps vs
  | [],_,h=>h
  | _::_,_,⟨v,r,x,y,z⟩=>⟨v,r,x,y.same e,IsPs.same e z⟩
theorem IsPs.len {H:Hp}:∀ {ps:List Pr} {vs:List V},IsPs H ps vs->ps.length=vs.length
  | [],vs,h=>by cases h;rfl
  | p::ps,vs,⟨v,r,x,_,z⟩=>by subst x;rw[List.length_cons,List.length_cons,IsPs.len z]
theorem IsPs.get {H:Hp}:∀ {ps:List Pr} {vs:List V} {i:Nat} {v:V},IsPs H ps vs->vs[i]?=some v->∃ p,ps[i]?=some p/\IsP H p v
  | [],vs,i,v,h,e=>by cases h;simp at e
  | p::ps,vs,0,v,⟨u,r,x,y,z⟩,e=>by subst x;simp at e;subst e;exact⟨p,rfl,y⟩
  | p::ps,vs,i+1,v,⟨u,r,x,y,z⟩,e=>by
    subst x
    obtain⟨q,hq,w⟩:=IsPs.get (i:=i) z (by simpa using e)
    exact⟨q,by simpa using hq,w⟩
theorem IsPs.app {H:Hp}:∀ {ps qs:List Pr} {vs us:List V},IsPs H ps vs->IsPs H qs us->IsPs H (ps++qs) (vs++us)
  | [],_,_,_,h,g=>by cases h;exact g
  | p::ps,qs,_,us,⟨v,r,x,y,z⟩,g=>by subst x;exact⟨v,r++us,rfl,y,IsPs.app z g⟩
theorem IsPs.one {H:Hp} {p:Pr} {v:V} (h:IsP H p v):IsPs H [p] [v]:=⟨v,[],rfl,h,rfl⟩
theorem uni_len:∀ (ps acc:List Pr),(uni acc ps).length <= acc.length+ps.length
  | [],acc=>by show acc.length <= acc.length+0;omega
  | p::ps,acc=>by
    have h1:=uni_len ps (addTo acc p)
    have h2:(addTo acc p).length <= acc.length+1:=by
      unfold addTo
      split
      · omega
      · rw[List.length_append];simp
    show (uni (addTo acc p) ps).length <= _
    rw[List.length_cons]
    omega
mutual
theorem parts_pos:∀ t:Tm,1 <= parts t
  | .call w ts=>by rw[parts];have:=partss_nn ts;omega
  | .num _=>by rw[parts];omega
  | .text _=>by rw[parts];omega
  | .row=>by rw[parts];omega
  | .mark=>by rw[parts];omega
  | .val _ _=>by rw[parts];omega
theorem partss_nn:∀ ts:List Tm,0 <= partss ts
  | []=>by rw[partss];omega
  | t::ts=>by
    rw[partss]
    have h1:=parts_pos t
    have h2:=partss_nn ts
    omega
end
mutual
theorem named_len:∀ t:Tm,((named t).length:Int) <= parts t
  | .call w ts=>by
    rw[parts,named]
    have:=nameds_len ts []
    simp at this
    omega
  | .num _=>by rw[parts,named];simp
  | .text _=>by rw[parts,named];simp
  | .row=>by rw[parts,named];simp
  | .mark=>by rw[parts,named];simp
  | .val _ _=>by rw[parts,named];simp
theorem nameds_len:∀ (ts:List Tm) (acc:List Pr),((nameds acc ts).length:Int) <= acc.length+partss ts
  | [],acc=>by rw[nameds,partss];omega
  | t::ts,acc=>by
    rw[nameds,partss]
    have h1:=named_len t
    have h2:=nameds_len ts (uni acc (named t))
    have h3:=uni_len (named t) acc
    omega
end
theorem partss_mem:∀ {ts:List Tm} {t:Tm},t ∈ ts->parts t <= partss ts
  | x::ts,t,h=>by
    rw[partss]
    have h1:=parts_pos x
    have h2:=partss_nn ts
    rcases List.mem_cons.mp h with rfl | h
    · omega
    · have:=partss_mem h
      omega
theorem partss_app:∀ (ts us:List Tm),partss (ts++us)=partss ts+partss us
  | [],us=>by rw[partss];simp
  | t::ts,us=>by rw[List.cons_append,partss,partss,partss_app ts us];omega
theorem parts_inner {t u:Tm} (h:u ∈ inner t):parts u <= parts t:=by
  have h1:=partss_mem h
  have h2:=parts_eq t
  rw[<- partss_eq] at h2
  omega
theorem fold_len (t:Tm) (i:Nat):((((inner t).take i).foldl (fun a u=>uni a (named u)) []).length:Int)+1 <= parts t:=by
  rw[<- nameds_eq]
  have h1:=nameds_len ((inner t).take i) []
  have h2:=parts_eq t
  rw[<- partss_eq] at h2
  have h3:=partss_app ((inner t).take i) ((inner t).drop i)
  rw[List.take_append_drop] at h3
  have h4:=partss_nn ((inner t).drop i)
  simp at h1
  omega
noncomputable def daP (p:Pr):Da:=.tup [.fl (.int p.1),.fl (.str p.2)]
theorem isd_P {K:PySem.W.Frag} {H:Hp} {p:Pr} {v:V} (h:IsP H p v):Isd K H (daP p) v:=by
  obtain⟨a,rfl,e⟩:=h
  unfold daP Isd
  exact⟨a,_,rfl,SqT.of e,isds_cons (isd_int _) (isds_cons (isd_str _) isds_nil)⟩
theorem isds_P {K:PySem.W.Frag} {H:Hp}:∀ {ps:List Pr} {vs:List V},IsPs H ps vs->Isds K H (ps.map daP) vs
  | [],_,h=>by cases h;exact isds_nil
  | _::_,_,⟨v,r,x,y,z⟩=>by subst x;exact isds_cons (isd_P y) (isds_P z)
theorem dep_P:∀ ps:List Pr,depDs (ps.map daP) <= 1
  | []=>by rw[List.map_nil];unfold depDs;omega
  | p::ps=>by
    rw[List.map_cons]
    unfold depDs
    have:=dep_P ps
    have:depD (daP p)=1:=by
      unfold daP depD depDs depDs depDs depD
      rfl
    omega
theorem eqD_P (p q:Pr):eqD (daP p) (daP q)=decide (p=q):=by
  obtain⟨a,b⟩:=p
  obtain⟨c,d⟩:=q
  have e:eqD (daP (a,b)) (daP (c,d))=(eqV (.int a) (.int c) && (eqV (.str b) (.str d) && true)):=by
    unfold daP eqD eqDs eqDs eqDs eqD
    rfl
  rw[e]
  by_cases h1:a=c
  · subst h1
    rw[eqV_refl (x:=V.int a) rfl]
    by_cases h2:b=d
    · subst h2
      rw[eqV_refl (x:=V.str b) rfl]
      simp
    · have:eqV (V.str b) (V.str d)=false:=by simp[eqV,h2]
      rw[this]
      simp[h2]
  · have:eqV (V.int a) (V.int c)=false:=by simp[eqV,h1]
    rw[this]
    simp[h1]
theorem any_P (p:Pr):∀ ps:List Pr,((ps.map daP).any fun e=>eqD e (daP p))=decide (p ∈ ps)
  | []=>by simp
  | q::ps=>by
    rw[List.map_cons,List.any_cons,any_P p ps,eqD_P]
    by_cases h:q=p
    · subst h;simp
    · have:p ≠ q:=fun z=>h z.symm
      simp[h,this]
end TM
namespace L2
open PySem PySem.Spec PyProof.Rows
section
variable {X:Cx} {o e value a:Expr} {f:Str} {pos pos' tpos:Pos} {ta tv:TE}
end
section
variable {X:Cx} {CX:CXT} {k:Nat} {f C:Addr} {fd:FuncData} {ps:List Str} {sp:Sp} {ds:List Value} {dvs:List V} {E:XK} {x m:Str} {p pos apos:Pos} {e o:Expr} {es:List Expr} {ta:TE} {t:TA}
end
end L2
namespace TM
open PySem L2
theorem app_list (a b:Str):(a++b).cps.toList=a.cps.toList++b.cps.toList:=by
  show (a.cps++b.cps).toList=_
  simp
theorem len_list (a:Str):a.length=a.cps.toList.length:=by simp[Str.length]
noncomputable def mkS (l:List Nat):Str:=⟨l.toArray⟩
theorem mk_list (l:List Nat):(mkS l).cps.toList=l:=by simp[mkS]
theorem str_ext {a b:Str} (h:a.cps.toList=b.cps.toList):a=b:=by
  cases a with | mk x=>cases b with | mk y=>exact congrArg Str.mk (Array.toList_inj.mp h)
noncomputable def letOk (c:Nat):Bool:=decide (97 <= c) && decide (c <= 122)
end TM
namespace TM
open PySem L2
open PySem.Builtin.Str (strSub occurrences partsBetween)
end TM
namespace L2
open PySem PySem.Spec PyProof.Rows
open PySem.Builtin.Str (strSub occurrences)
section
variable {X:Cx}
end
section
variable {X:Cx} {tg:Expr}
end
end L2
namespace TM
open PySem L2
inductive L2R {α:Type} (R:α->V->Prop):List α->List V->Prop
  | nil:L2R R [] []
  | cons {a:α} {v:V} {as:List α} {vs:List V}:R a v->L2R R as vs->L2R R (a::as) (v::vs)
namespace L2R
variable {α:Type} {R R':α->V->Prop}
theorem imp (h:∀ a v,R a v->R' a v):∀ {as:List α} {vs:List V},L2R R as vs->L2R R' as vs
  | _,_,.nil=>.nil
  | _,_,.cons x y=>.cons (h _ _ x) (imp h y)
theorem len:∀ {as:List α} {vs:List V},L2R R as vs->vs.length=as.length
  | _,_,.nil=>rfl
  | _,_,.cons _ y=>by rw[List.length_cons,List.length_cons,len y]
theorem get:∀ {as:List α} {vs:List V} {i:Nat} {v:V},L2R R as vs->vs[i]?=some v->∃ a,as[i]?=some a/\R a v
  | _,_,i,v,.nil,e=>by simp at e
  | _,_,0,v,.cons (a:=a) x y,e=>by
    simp at e
    subst e
    exact⟨a,rfl,x⟩
  | _,_,i+1,v,.cons x y,e=>by
    obtain⟨b,hb,r⟩:=get (i:=i) y (by simpa using e)
    exact⟨b,by simpa using hb,r⟩
theorem app:∀ {as bs:List α} {vs us:List V},L2R R as vs->L2R R bs us->L2R R (as++bs) (vs++us)
  | _,_,_,_,.nil,g=>g
  | _,_,_,_,.cons x y,g=>.cons x (app y g)
theorem one {a:α} {v:V} (h:R a v):L2R R [a] [v]:=.cons h .nil
theorem snoc {as:List α} {vs:List V} {a:α} {v:V} (h:L2R R as vs) (g:R a v):L2R R (as++[a]) (vs++[v]):=h.app (one g)
theorem rev:∀ {as:List α} {vs:List V},L2R R as vs->L2R R as.reverse vs.reverse
  | _,_,.nil=>.nil
  | _,_,.cons x y=>by rw[List.reverse_cons,List.reverse_cons];exact (rev y).app (one x)
theorem nil_of {vs:List V} (h:L2R R [] vs):vs=[]:=by cases h;rfl
theorem inv_cons {a:α} {as:List α} {vs:List V} (h:L2R R (a::as) vs):∃ v r,vs=v::r/\R a v/\L2R R as r:=by
  cases h with
  | cons x y=>exact⟨_,_,rfl,x,y⟩
end L2R
structure Sg where
  nm:Str
  dn:List (Str × Str)
  up:List (Str × Str)
structure Ru where
  k:Int
  nm:Str
  tm:Tm
structure Fm where
  nm:Str
  hd:Str
  br:List Str
  ru:List Ru
def PrIs (H:Hp) (p:Str × Str) (v:V):Prop:=∃ a,v=.ref a/\H a=some (.tup [.str p.1,.str p.2])
def SgIs (H:Hp) (s:Sg) (v:V):Prop:=∃ p a b us ws,v=.ref p/\H p=some (.tup [.str s.nm,.ref a,.ref b])/\H a=some (.tup us)/\L2R (PrIs H) s.dn us/\H b=some (.tup ws)/\L2R (PrIs H) s.up ws
def RuIs (H:Hp) (r:Ru) (v:V):Prop:=∃ p u,v=.ref p/\H p=some (.tup [.int r.k,.str r.nm,u])/\TmIs H r.tm u
def FmIs (H:Hp) (f:Fm) (v:V):Prop:=∃ p a b us,v=.ref p/\H p=some (.tup [.str f.nm,.str f.hd,.ref a,.ref b])/\H a=some (.tup (f.br.map V.str))/\H b=some (.tup us)/\L2R (RuIs H) f.ru us
section
variable {H H':Hp}
theorem PrIs.same (e:SameT H H') {p:Str × Str} {v:V} (h:PrIs H p v):PrIs H' p v:=by
  obtain⟨a,x,y⟩:=h
  exact⟨a,x,e _ _ y⟩
theorem SgIs.same (e:SameT H H') {p:Sg} {v:V} (h:SgIs H p v):SgIs H' p v:=by
  obtain⟨p,a,b,us,ws,x,y,z,l,z',l'⟩:=h
  exact⟨p,a,b,us,ws,x,e _ _ y,e _ _ z,l.imp fun _ _=>PrIs.same e,e _ _ z',l'.imp fun _ _=>PrIs.same e⟩
theorem RuIs.same (e:SameT H H') {p:Ru} {v:V} (h:RuIs H p v):RuIs H' p v:=by
  obtain⟨p,u,x,y,z⟩:=h
  exact⟨p,u,x,e _ _ y,TmIs.same e _ z⟩
theorem FmIs.same (e:SameT H H') {p:Fm} {v:V} (h:FmIs H p v):FmIs H' p v:=by
  obtain⟨p,a,b,us,x,y,z,z',l⟩:=h
  exact⟨p,a,b,us,x,e _ _ y,e _ _ z,e _ _ z',l.imp fun _ _=>RuIs.same e⟩
end
abbrev kinds3:List Str:=["num", "text", "row"]
end TM
namespace L2
open PySem PySem.Spec PyProof.Rows TM
theorem take_snocA {α:Type} {xs:List α} {i:Nat} {x:α} (h:xs[i]?=some x):xs.take (i+1)=xs.take i++[x]:=by
  rw[List.take_succ,h]
  rfl
section
variable {K:PySem.W.Frag} {a:Addr} {xs:List V} {js:List Nat} {g:TG} {n:Nat} {te:TE} {σ:St} {Q:VK} {D:Addr} {H1:Hp} {α:Type} {R:Hp->α->V->Prop} {as:List α}
def OffD (D:Addr) (R:Hp->α->V->Prop):Prop:=∀ H H' acc b v,H D=some (.lst acc)->(∀ c o,c ≠ D->H c=some o->H' c=some o)->R H b v->R H' b v
theorem OffD.ofT (h:∀ H H' b v,SameT H H'->R H b v->R H' b v):OffD D R:=fun H H' acc b v d k r=>h H H' b v (fun c ys e=>k c _ (fun z=>by rw[z,d] at e;cases e) e) r
theorem comp_lstR (st:OffD D R) (hz:xs.length < sizeLine) (hlen:as.length=xs.length) (ha:SqL K H1 a xs) (hD:H1 D=none)
    (he:∀ (i:Nat) (x:V) (b:α) (H:Hp),xs[i]?=some x->as[i]?=some b->Same H1 H->(∃ acc,H D=some (.lst acc))->∀ Q':VK,(∀ y H',Same H H'->R H' b y->Q' y H')->te (some x::compS js σ) H Q')
    (hq:∀ ys H',Same H1 H'->H' D=some (.lst ys)->L2R (R H') as ys->Q (.ref D) H'):CompW (Itl K a) js tYes te σ Q D H1:=by
  refine comp_lst (K:=K) (a:=a) (xs:=xs) (fun i acc H=>i <= xs.length/\Same H1 H/\H D=some (.lst acc)/\L2R (R H) (as.take i) acc) hz ⟨Nat.zero_le _,same_new hD _,upd_same,.nil⟩ (fun i acc H ⟨l,s,d,r⟩=>⟨d,?_,Same.seq s ha⟩) ?_ ?_
  · rw[r.len,List.length_take]
    omega
  · rintro i m x acc H hi ⟨l,s,d,r⟩ hm
    have hlt:=lt_of_some hi
    obtain⟨b,hb⟩:=some_of_lt (xs:=as) (i:=i) (by omega)
    refine he i x b H hi hb s ⟨_,d⟩ _ fun y H4 s4 r4=>⟨s4 _ _ d,xs.length - (i+1),by omega,rfl,hlt,hlt,same_upd hD (s.trans s4),upd_same,?_⟩
    have k:∀ c o,c ≠ D->H4 c=some o->upd H4 D (.lst (acc++[y])) c=some o:=fun c o hc e=>by rw[upd_ne hc];exact e
    rw[take_snocA hb]
    exact (r.imp fun b v r=>st _ _ _ b v (s4 _ _ d) k (st _ _ _ b v d (fun c o _ e=>s4 c o e) r)).snoc (st _ _ _ b y (s4 _ _ d) k r4)
  · rintro acc H ⟨l,s,d,r⟩
    rw[List.take_of_length_le (by omega)] at r
    exact hq acc H s d r
end
end L2
namespace L2
open PySem PySem.Spec PyProof.Rows
end L2
namespace L2
open PySem PySem.Spec PyProof.Rows
section
variable {prog:Program} {w:World} {A:Around} {E:Value->Shared->Prop} {s:Shared}
end
end L2
namespace L2
open PySem PySem.Spec PyProof.Rows
section
variable {prog:Program} {w:World} {A:Around} {E:Value->Shared->Prop} {s:Shared}
end
section
variable {X:Cx} {e:Expr} {te:TE} {p1 p2 q1 q2:Pos}
end
end L2
namespace L2
open PySem PySem.Spec PyProof.Rows
section
variable {X:Cx} {elts:List Expr} {k:Nat} {tpos:Pos}
end
end L2
namespace L2
open PySem PySem.Spec PyProof.Rows
section
variable {X:Cx}
theorem qe_dget {o i:Expr} {pos:Pos} {td ty:TE} (hu:X.A.units+1 < cLine) (ho:QE X o td) (hi:QE X i ty) (hs:NoSl i:=by intro _ _;rfl):QE X (.Subscript o i pos) (tDGet td ty):=⟨pe_dget hu ho.h hi.h hs⟩
end
end L2
namespace L2
open PySem PySem.Spec PyProof.Rows
section
variable {X:Cx}
theorem op_neNil (hu:X.A.units+64 < cLine):OpR X (compareOp .NotEq) (fun x y H Q=>∃ a b xs,x=.ref a/\y=.ref b/\SqL X.K H a xs/\SqL X.K H b []/\Q (.bl (!decide (xs=[]))) H):=by
  intro pins s σ H x y v u Q I rx ry h
  obtain⟨a,b,xs,e1,e2,ha,hb,q⟩:=h
  by_cases hx:xs=[]
  · subst hx
    refine op_neD hu pins s σ H x y v u Q I rx ry ⟨a,b,[],[],[],[],e1,e2,.inr ⟨ha,hb⟩,isds_nil,isds_nil,by unfold depDs;omega,?_⟩
    have e:(!(eqDs [] []))=!decide (([]:List V)=[]):=by unfold eqDs;rfl
    rw[e]
    exact q
  · subst e1 e2
    cases rx
    cases ry
    obtain⟨us,r1,p1,_⟩:=I.list ha
    obtain⟨ws,r2,p2,_⟩:=I.list hb
    cases r2
    have hne:us ≠ []:=fun z=>hx ((Vals.nil_iff r1).mp z)
    refine SeqAt.RcNeAt.lists_lengths p1.isList p2.isList (by simpa using hne) (by omega) _ _ _ _ ⟨.bl _,H,I,?_,q⟩
    rw[decide_eq_false hx]
    rfl
end
section
variable {X:Cx} {tg e:Expr} {te:TE} {p q:Pos}
end
section
variable {prog:Program} {w:World} {A:Around} {E:Value->Shared->Prop} {s:Shared}
end
section
variable {X:Cx} {tg e:Expr} {te:TE} {p1 p2 q1 q2:Pos}
end
end L2
namespace L2
open PySem PySem.Spec PyProof.Rows
section
variable {X:Cx} {Dc:Addr} {dn n:Str} {i:Nat} {np hpos:Pos} {ts:TS} {b0:Stmt} {suite:List Stmt} {pins:List (Addr × Obj)} {σ:St} {H1:Hp} {s1 s':Shared} {D:Ends} {ev:Value} {Q:Flow->Shared->Prop}
variable {k:Nat} {f:Addr} {fd:FuncData} {ps:List Str} {sp:Sp} {x:Str} {p cpos epos:Pos} {e:Expr} {es:List Expr} {t:TA} {EX:XK} {N:Hp->Prop} {H:Hp} {s:Shared}
end
section
variable {X:Cx} {Dc:Addr} {dn n:Str} {i:Nat} {np hpos pos ipos:Pos} {ts:TS} {b0:Stmt} {suite:List Stmt} {c:Expr} {tc:TT}
  {k1 k2:Nat} {f1 f2:Addr} {fd1 fd2:FuncData} {ps1 ps2:List Str} {sp1 sp2:Sp} {x1 x2:Str} {p1 p2 c1 c2 q1 q2:Pos} {e1 e2:Expr} {es1 es2:List Expr} {t1 t2:TA}
end
end L2
namespace L2
open PySem PySem.Spec PyProof.Rows
section
variable {prog:Program} {w:World} {A:Around} {E:Value->Shared->Prop} {s:Shared}
theorem tupNext_yes {it t:Addr} {i:Nat} {vs:Array Value} {x:Value} {Q:Value->Shared->Prop} (hi:s.heap.IsTupleIter it t i) (ht:s.heap.IsTuple t vs) (hx:vs[i]?=some x)
    (q:∀ h',h'.IsTupleIter it t (i+1)->Heap.SameBut it s.heap h'->Q x { s with heap:=h' }):wpAny (model prog w) A (Builtin.SmallTypes.nextOf (.ref it)) Q E s:=by
  obtain⟨o,ho,hc,hd⟩:=id hi
  obtain⟨ot,hot,_,nt,hdt⟩:=ht
  unfold Builtin.SmallTypes.nextOf
  refine wpAny_bind (wpAny_callSpecial?_slot (name:=Str.ofString "__next__") hi.typeIs F.slot_tuple_iterator_next (wpAny_call_entry F.slot_tuple_iterator_next hi.typeIs F.entry_tuple_iterator_next ?_ (F.args_tuple_iterator_next_1 _)))
  show wpAny _ _ (field (.ref it) 0 >>= _) _ _ s
  refine wpAny_bind (wpAny_field ho hd (x:=.ref t) rfl (show wpAny _ _ (if (Value.ref t == Value.none)=true then _ else _) _ _ s from ?_))
  rw[if_neg (show ¬ ((Value.ref t == Value.none)=true) from Bool.false_ne_true)]
  show wpAny _ _ (field (.ref it) 1 >>= _) _ _ s
  refine wpAny_bind (wpAny_field ho hd (x:=.int i 0) rfl (show wpAny _ _ (seqItems? (.ref t) >>= _) _ _ s from wpAny_bind (wpAny_seqItems hot hdt ?_)))
  simp only[Int.toNat_natCast,hx]
  refine wpAny_bind (wpAny_setField ho hd (by simp) (wpAny_pure ⟨x,rfl,wpAny_pure (q _ ⟨_,Heap.get?_update_self _ ho (Obj.isFreed_of_fields (Obj.data_mapFields hd _)),(Obj.cls_mapFields ..).trans hc,?_⟩ (Heap.SameBut.update ..))⟩))
  rw[Obj.data_mapFields hd]
  simp[rawInt]
theorem tupNext_no {it t:Addr} {i:Nat} {vs:Array Value} {Q:Value->Shared->Prop} (hh:A.handled=none) (hi:s.heap.IsTupleIter it t i) (ht:s.heap.IsTuple t vs) (hx:vs[i]?=none)
    (q:∀ h' e,Heap.ExtBut it s.heap h'->(∃ o,h'.get? e=some o/\o.cls=.type "StopIteration")->E (.ref e) { s with heap:=h' }):wpAny (model prog w) A (Builtin.SmallTypes.nextOf (.ref it)) Q E s:=by
  obtain⟨o,ho,hc,hd⟩:=id hi
  obtain⟨ot,hot,_,nt,hdt⟩:=ht
  unfold Builtin.SmallTypes.nextOf
  refine wpAny_bind (wpAny_callSpecial?_slot (name:=Str.ofString "__next__") hi.typeIs F.slot_tuple_iterator_next (wpAny_call_entry F.slot_tuple_iterator_next hi.typeIs F.entry_tuple_iterator_next ?_ (F.args_tuple_iterator_next_1 _)))
  show wpAny _ _ (field (.ref it) 0 >>= _) _ _ s
  refine wpAny_bind (wpAny_field ho hd (x:=.ref t) rfl (show wpAny _ _ (if (Value.ref t == Value.none)=true then _ else _) _ _ s from ?_))
  rw[if_neg (show ¬ ((Value.ref t == Value.none)=true) from Bool.false_ne_true)]
  show wpAny _ _ (field (.ref it) 1 >>= _) _ _ s
  refine wpAny_bind (wpAny_field ho hd (x:=.int i 0) rfl (show wpAny _ _ (seqItems? (.ref t) >>= _) _ _ s from wpAny_bind (wpAny_seqItems hot hdt ?_)))
  simp only[Int.toNat_natCast,hx]
  refine wpAny_bind (wpAny_rule (wpAny_bind (wpAny_setField ho hd (by simp) (show wpAny _ _ (newExc (.type "StopIteration") [] >>= _) _ _ _ from wpAny_bind ?_))))
  simp only[newExc,newTuple]
  refine wpAny_bind (wpAny_newObj_type (wpAny_bind (m:=firstArgMember _ _) (wpAny_of_eq (a:=Value.none) (by first | rfl | (simp only[firstArgMember];rfl)) (wpAny_newObj_type ?_ (by size_fits)))) (by size_fits))
  simp only[raiseNew]
  refine wpAny_bind (wpAny_handled ?_)
  first | rw[show A.in1.handled=none from hh] | rw[hh]
  exact wpAny_bind (wpAny_pure (wpAny_throw (q _ _ (((Heap.SameBut.update ..).extBut.push _).push _) ⟨_,Heap.get?_push_size _ rfl,rfl⟩)))
structure ZAp (z TI TO i1 i2 t1 t2:Addr):Prop where
  a1:TI ≠ z
  a2:TO ≠ z
  a3:i1 ≠ z
  a4:i2 ≠ z
  a5:TI ≠ TO
  a6:TI ≠ i1
  a7:TI ≠ i2
  a8:TO ≠ i1
  a9:TO ≠ i2
  b1:i1 ≠ i2
  c1:t1 ≠ z
  c2:t1 ≠ TO
  c3:t1 ≠ i1
  c4:t1 ≠ i2
  d1:t2 ≠ z
  d2:t2 ≠ TO
  d3:t2 ≠ i1
  d4:t2 ≠ i2
structure ZSt (h:Heap) (z TI TO i1 i2 t1 t2:Addr) (k:Nat) (vs us:Array Value) (f:Value):Prop where
  zz:IsZip h z TI TO f
  ti:IsPair h TI (.ref i1) (.ref i2)
  to:∃ a b,IsPair h TO a b
  n1:h.IsTupleIter i1 t1 k
  n2:h.IsTupleIter i2 t2 k
  g1:h.IsTuple t1 vs
  g2:h.IsTuple t2 us
theorem ndA {a b:Nat} (h:a < b\/b < a):a ≠ b:=by omega
theorem itAt {h h':Heap} {it t:Addr} {i:Nat} (x:h.IsTupleIter it t i) (k:∀ o,h.get? it=some o->h'.get? it=some o):h'.IsTupleIter it t i:=let ⟨o,ho,r⟩:=x;⟨o,k o ho,r⟩
theorem tpAt {h h':Heap} {t:Addr} {vs:Array Value} (x:h.IsTuple t vs) (k:∀ o,h.get? t=some o->h'.get? t=some o):h'.IsTuple t vs:=let ⟨o,ho,r⟩:=x;⟨o,k o ho,r⟩
theorem zipNext_yes {z TI TO i1 i2 t1 t2:Addr} {k:Nat} {vs us:Array Value} {x y:Value} {Q:Option Value->Shared->Prop} (D:ZAp z TI TO i1 i2 t1 t2) (S:ZSt s.heap z TI TO i1 i2 t1 t2 k vs us .none) (hx:vs[k]?=some x) (hy:us[k]?=some y)
    (q:∀ h',ZSt h' z TI TO i1 i2 t1 t2 (k+1) vs us (rawInt s.heap.objs.size)->IsPair h' s.heap.objs.size x y->(∀ c o,c ≠ z->c ≠ TO->c ≠ i1->c ≠ i2->s.heap.get? c=some o->h'.get? c=some o)->Q (some (.ref s.heap.objs.size)) { s with heap:=h' }) :
    wpAny (model prog w) A (pyNext (.ref z)) Q E s:=by
  obtain⟨zz,ti,⟨a,b,to⟩,n1,n2,g1,g2⟩:=S
  have ty:s.TypeIs (.ref z) "zip":=⟨_,zz,rfl⟩
  unfold pyNext
  refine wpAny_bind (wpAny_attempt (wpAny_callSpecial?_slot (name:=Str.ofString "__next__") ty F.slot_zip_next (wpAny_call_entry F.slot_zip_next ty F.entry_zip_next ?_ (F.args_zip_next_1 _))))
  show wpAny _ _ (field (.ref z) 2 >>= _) _ _ _
  refine wpAny_bind (wpAny_field zz rfl (x:=.bool false) rfl (show wpAny _ _ (field (.ref z) 3 >>= _) _ _ _ from wpAny_bind (wpAny_field zz rfl (x:=.ref TI) rfl (wpAny_bind (wpAny_seqItems ti rfl ?_)))))
  refine wpAny_bind (show wpAny _ _ (Builtin.SmallTypes.ownedTupleIsFree (.ref z)) _ _ _ from ?_)
  unfold Builtin.SmallTypes.ownedTupleIsFree
  refine wpAny_bind (wpAny_field zz rfl (x:=.none) rfl (wpAny_pure ?_))
  simp only[if_true]
  refine wpAny_bind (wpAny_rule (wpAny_bind (wpAny_field zz rfl (x:=.ref TO) rfl (wpAny_bind (wpAny_setField_rec zz (by simp) fun u1 z1 k1=>?_)))))
  have e1:∀ c o,c ≠ z->s.heap.get? c=some o->u1.get? c=some o:=k1.extBut
  have m1:u1.objs.size=s.heap.objs.size:=k1.1
  refine wpAny_bind ?_
  simp only[List.zipIdx_nil,List.zipIdx_cons,List.forIn_nil,List.forIn_cons]
  refine wpAny_bind (wpAny_bind (wpAny_onRaise (show wpAny _ _ (Builtin.SmallTypes.nextOf (.ref i1) >>= _) _ _ _ from wpAny_bind (tupNext_yes (itAt n1 fun o=>e1 i1 o D.a3) (tpAt g1 fun o=>e1 t1 o D.c1) hx fun u2 j1 k2=>wpAny_pure ?_))))
  have e2:∀ c o,c ≠ z->c ≠ i1->s.heap.get? c=some o->u2.get? c=some o:=fun c o h1 h2 e=>k2.extBut c o h2 (e1 c o h1 e)
  have z2:=k2.extBut _ _ D.a3.symm z1
  have to2:IsPair u2 TO a b:=e2 _ _ D.a2 D.a8 to
  refine wpAny_bind (wpAny_seqItems to2 rfl (wpAny_bind (wpAny_updateSeq_pair to2 fun u3 to3 k3=>wpAny_bind (wpAny_letGo (wpAny_pure ?_)))))
  have to3':IsPair u3 TO x b:=to3
  have e3:∀ c o,c ≠ z->c ≠ i1->c ≠ TO->s.heap.get? c=some o->u3.get? c=some o:=fun c o h1 h2 h3 e=>k3.extBut c o h3 (e2 c o h1 h2 e)
  have z3:=k3.extBut _ _ D.a2.symm z2
  refine wpAny_bind (wpAny_bind (wpAny_onRaise (show wpAny _ _ (Builtin.SmallTypes.nextOf (.ref i2) >>= _) _ _ _ from wpAny_bind (tupNext_yes (itAt n2 fun o=>e3 i2 o D.a4 D.b1.symm D.a9.symm) (tpAt g2 fun o=>e3 t2 o D.d1 D.d3 D.d2) hy fun u4 j2 k4=>wpAny_pure ?_))))
  have to4:IsPair u4 TO x b:=k4.extBut _ _ D.a9 to3'
  refine wpAny_bind (wpAny_seqItems to4 rfl (wpAny_bind (wpAny_updateSeq_pair to4 fun u5 to5 k5=>wpAny_bind (wpAny_letGo (wpAny_pure (wpAny_pure ?_))))))
  have to5':IsPair u5 TO x y:=to5
  have e5:∀ c o,c ≠ z->c ≠ i1->c ≠ TO->c ≠ i2->s.heap.get? c=some o->u5.get? c=some o:=fun c o h1 h2 h3 h4 e=>k5.extBut c o h3 (k4.extBut c o h4 (e3 c o h1 h2 h3 e))
  have z5:=k5.extBut _ _ D.a2.symm (k4.extBut _ _ D.a4.symm z3)
  have m5:u5.objs.size=s.heap.objs.size:=by rw[k5.1,k4.1,k3.1,k2.1,m1]
  have lz:z < s.heap.objs.size:=Heap.lt_size zz
  refine wpAny_bind (wpAny_seqItems to5' rfl (wpAny_bind (wpAny_newTuple ?_)))
  refine wpAny_bind (show wpAny _ _ (Builtin.SmallTypes.ownedTupleHandOut (.ref z) (.ref u5.objs.size)) _ _ _ from ?_)
  unfold Builtin.SmallTypes.ownedTupleHandOut
  have z6:=Heap.get?_push_of_some { cls:=.type "tuple",data:=.seq #[x,y] } z5
  refine wpAny_bind (wpAny_setField_rec z6 (by simp) fun u7 z7 k7=>wpAny_setField_rec z7 (by simp) fun u8 z8 k8=>wpAny_pure ⟨_,rfl,?_⟩)
  have e8:∀ c o,c ≠ z->u5.get? c=some o->u8.get? c=some o:=fun c o h e=>k8.extBut c o h (k7.extBut c o h (Heap.get?_push_of_some _ e))
  have p8:IsPair u8 u5.objs.size x y:=k8.extBut _ _ (by rw[m5];exact Nat.ne_of_gt lz) (k7.extBut _ _ (by rw[m5];exact Nat.ne_of_gt lz) (Heap.get?_push_size _ rfl))
  refine wpAny_pure ?_
  show Q (some (.ref u5.objs.size)) { s with heap:=u8 }
  have z8':IsZip u8 z TI TO (rawInt u5.objs.size):=z8
  rw[m5] at p8 z8' ⊢
  refine q u8 ⟨z8',e8 _ _ D.a1 (e5 _ _ D.a1 D.a6 D.a5 D.a7 ti),⟨x,y,e8 _ _ D.a2 to5'⟩,?_,?_,tpAt g1 fun o e=>e8 _ _ D.c1 (e5 _ _ D.c1 D.c3 D.c2 D.c4 e),tpAt g2 fun o e=>e8 _ _ D.d1 (e5 _ _ D.d1 D.d3 D.d2 D.d4 e)⟩ p8 fun c o h1 h2 h3 h4 e=>e8 c o h1 (e5 c o h1 h3 h2 h4 e)
  · exact itAt j1 fun o e=>e8 _ _ D.a3 (k5.extBut _ _ D.a8.symm (k4.extBut _ _ D.b1 (k3.extBut _ _ D.a8.symm e)))
  · exact itAt j2 fun o e=>e8 _ _ D.a4 (k5.extBut _ _ D.a9.symm e)
theorem zipNext_no {z TI TO i1 i2 t1 t2:Addr} {k:Nat} {vs us:Array Value} {Q:Option Value->Shared->Prop} (hh:A.handled=none) (D:ZAp z TI TO i1 i2 t1 t2) (S:ZSt s.heap z TI TO i1 i2 t1 t2 k vs us .none) (hx:vs[k]?=none)
    (q:∀ h',(∀ c o,c ≠ z->c ≠ TO->c ≠ i1->c ≠ i2->s.heap.get? c=some o->h'.get? c=some o)->Q none { s with heap:=h' }):wpAny (model prog w) A (pyNext (.ref z)) Q E s:=by
  obtain⟨zz,ti,⟨a,b,to⟩,n1,n2,g1,g2⟩:=S
  have ty:s.TypeIs (.ref z) "zip":=⟨_,zz,rfl⟩
  unfold pyNext
  refine wpAny_bind (wpAny_attempt (wpAny_callSpecial?_slot (name:=Str.ofString "__next__") ty F.slot_zip_next (wpAny_call_entry F.slot_zip_next ty F.entry_zip_next ?_ (F.args_zip_next_1 _))))
  show wpAny _ _ (field (.ref z) 2 >>= _) _ _ _
  refine wpAny_bind (wpAny_field zz rfl (x:=.bool false) rfl (show wpAny _ _ (field (.ref z) 3 >>= _) _ _ _ from wpAny_bind (wpAny_field zz rfl (x:=.ref TI) rfl (wpAny_bind (wpAny_seqItems ti rfl ?_)))))
  refine wpAny_bind (show wpAny _ _ (Builtin.SmallTypes.ownedTupleIsFree (.ref z)) _ _ _ from ?_)
  unfold Builtin.SmallTypes.ownedTupleIsFree
  refine wpAny_bind (wpAny_field zz rfl (x:=.none) rfl (wpAny_pure ?_))
  simp only[if_true]
  refine wpAny_bind (wpAny_rule (wpAny_bind (wpAny_field zz rfl (x:=.ref TO) rfl (wpAny_bind (wpAny_setField_rec zz (by simp) fun u1 z1 k1=>?_)))))
  refine wpAny_bind ?_
  simp only[List.zipIdx_nil,List.zipIdx_cons,List.forIn_nil,List.forIn_cons]
  refine wpAny_bind (wpAny_bind (wpAny_onRaise (show wpAny _ _ (Builtin.SmallTypes.nextOf (.ref i1) >>= _) _ _ _ from wpAny_bind (tupNext_no hh (itAt n1 fun o=>k1.extBut i1 o D.a3) (tpAt g1 fun o=>k1.extBut t1 o D.c1) hx fun u2 e k2 he=>?_))))
  obtain⟨oe,hoe,hce⟩:=he
  have z2:=k2 _ _ D.a3.symm z1
  have nz:e ≠ z:=fun c=>by
    subst c
    rw[z2] at hoe
    cases hoe
    simp at hce
  refine wpAny_setField_rec z2 (by simp) fun u3 _ k3=>?_
  refine wpAny_bind (wpAny_isInstance (T:="StopIteration") (b:=true) ⟨oe,k3.extBut _ _ nz hoe,hce⟩ isSubtype_stop (wpAny_pure (q u3 fun c o h1 _ h3 _ e=>k3.extBut _ _ h1 (k2 _ _ h3 (k1.extBut _ _ h1 e)))))
theorem zipMake (l1 l2:Addr) (vs us:Array Value) :
    Meets (Builtin.«zip.__new__» ⟨[.type "zip",.ref l1,.ref l2],[]⟩) (fun _ R s=>s.heap.IsTuple l1 vs/\s.heap.IsTuple l2 us /\
      ∀ h0 h1 h2 h3 h4 h5,h0=s.heap->h1=h0.push { cls:=.type "tuple_iterator",data:=.fields #[.ref l1,.int 0 0] }->h2=h1.push { cls:=.type "tuple_iterator",data:=.fields #[.ref l2,.int 0 0] }->h3=h2.push { cls:=.type "tuple",data:=.seq #[.ref h0.objs.size,.ref h1.objs.size] } ->
        h4=h3.push { cls:=.type "tuple",data:=.seq #[.none,.none] }->h5=h4.push { cls:=.type "zip",data:=.fields #[.none,.bool false,.bool false,.ref h2.objs.size,.ref h3.objs.size] }->R (.ok (.ret (.ref h4.objs.size))) { s with heap:=h5 }):=
  .of_wp fun prog w A R s h=>by
    obtain⟨hp,g,d,tk,os⟩:=s
    obtain⟨hl1,hl2,h⟩:=h
    have hsub:=sub_zip
    have hL1:Heap.IsTuple (Shared.heap ⟨hp,g,d,tk,os⟩) l1 vs:=hl1
    have hL2:Heap.IsTuple (Shared.heap ⟨hp.push { cls:=.type "tuple_iterator",data:=.fields #[.ref l1,.int 0 0] },g,d,tk,os⟩) l2 us:=Heap.IsTuple.push hl2 _
    have h:=h _ _ _ _ _ _ rfl rfl rfl rfl rfl rfl
    wp_walk using wpAny_pyIter_tuple hL1,wpAny_pyIter_tuple hL2
    exact⟨_,rfl,h⟩
theorem zipCall {l1 l2:Addr} {vs us:Array Value} {Q:Value->Shared->Prop} (g1:s.heap.IsTuple l1 vs) (g2:s.heap.IsTuple l2 us)
    (q:∀ h',ZSt h' (s.heap.objs.size+4) (s.heap.objs.size+2) (s.heap.objs.size+3) s.heap.objs.size (s.heap.objs.size+1) l1 l2 0 vs us .none->(∀ c o,s.heap.get? c=some o->h'.get? c=some o)->Q (.ref (s.heap.objs.size+4)) { s with heap:=h' }) :
    wpAny (model prog w) A (call (.type "zip") [.ref l1,.ref l2]) Q E s:=by
  refine callType_new F.called_zip (by decide) (F.typeCall_zip_2 _ _) (F.newCall_zip_2 _ _) (fun obj=>F.args_object_init_3 obj _ _) F.entry_zip_new (zipMake l1 l2 vs us) ⟨g1,g2,fun h0 h1 h2 h3 h4 h5 e0 e1 e2 e3 e4 e5=>?_⟩
  have s1:h1.objs.size=h0.objs.size+1:=by rw[e1];exact Heap.size_push ..
  have s2:h2.objs.size=h0.objs.size+2:=by rw[e2,Heap.size_push,s1]
  have s3:h3.objs.size=h0.objs.size+3:=by rw[e3,Heap.size_push,s2]
  have s4:h4.objs.size=h0.objs.size+4:=by rw[e4,Heap.size_push,s3]
  have k1:∀ c o,h0.get? c=some o->h1.get? c=some o:=fun c o e=>by rw[e1];exact Heap.get?_push_of_some _ e
  have k2:∀ c o,h1.get? c=some o->h2.get? c=some o:=fun c o e=>by rw[e2];exact Heap.get?_push_of_some _ e
  have k3:∀ c o,h2.get? c=some o->h3.get? c=some o:=fun c o e=>by rw[e3];exact Heap.get?_push_of_some _ e
  have k4:∀ c o,h3.get? c=some o->h4.get? c=some o:=fun c o e=>by rw[e4];exact Heap.get?_push_of_some _ e
  have k5:∀ c o,h4.get? c=some o->h5.get? c=some o:=fun c o e=>by rw[e5];exact Heap.get?_push_of_some _ e
  have p5:h5.get? h4.objs.size=some { cls:=.type "zip",data:=.fields #[.none,.bool false,.bool false,.ref h2.objs.size,.ref h3.objs.size] }:=by rw[e5];exact Heap.get?_push_size _ rfl
  have p4:h5.get? h3.objs.size=some { cls:=.type "tuple",data:=.seq #[.none,.none] }:=k5 _ _ (by rw[e4];exact Heap.get?_push_size _ rfl)
  have p3:h5.get? h2.objs.size=some { cls:=.type "tuple",data:=.seq #[.ref h0.objs.size,.ref h1.objs.size] }:=k5 _ _ (k4 _ _ (by rw[e3];exact Heap.get?_push_size _ rfl))
  have p2:h5.get? h1.objs.size=some { cls:=.type "tuple_iterator",data:=.fields #[.ref l2,.int 0 0] }:=k5 _ _ (k4 _ _ (k3 _ _ (by rw[e2];exact Heap.get?_push_size _ rfl)))
  have p1:h5.get? h0.objs.size=some { cls:=.type "tuple_iterator",data:=.fields #[.ref l1,.int 0 0] }:=k5 _ _ (k4 _ _ (k3 _ _ (k2 _ _ (by rw[e1];exact Heap.get?_push_size _ rfl))))
  have kk:∀ c o,h0.get? c=some o->h5.get? c=some o:=fun c o e=>k5 _ _ (k4 _ _ (k3 _ _ (k2 _ _ (k1 _ _ e))))
  rw[s1] at p2 p3
  rw[s2] at p3 p5
  rw[s3] at p4 p5
  rw[s4] at p5 ⊢
  subst e0
  exact⟨⟨_,p5,rfl⟩,q h5 ⟨p5,p3,⟨_,_,p4⟩,⟨_,p1,rfl,rfl⟩,⟨_,p2,rfl,rfl⟩,tpAt g1 fun o e=>kk _ _ e,tpAt g2 fun o e=>kk _ _ e⟩ kk⟩
end
def rZip (xs ys:List V):Nat->List V->Prop:=fun i vs=>∃ x y,xs[i]?=some x/\ys[i]?=some y/\vs=[x,y]
theorem turn_zipT {P:Program} {w:World} {K:PySem.W.Frag} {elts:List Expr} {m:Nat} {pos:Pos} {z TI TO i1 i2 t1 t2:Addr} {xs ys:List V} (D:ZAp z TI TO i1 i2 t1 t2) (hl:ys.length=xs.length) :
    Turn P w K (.Tuple elts m pos) (ItW xs.length (fun H=>SqT K H t1 xs/\SqT K H t2 ys) (rZip xs ys)) [z,TI,TO,i1,i2] z (fun i h=>IsZip h z TI TO .none/\IsPair h TI (.ref i1) (.ref i2)/\(∃ a b,IsPair h TO a b)/\h.IsTupleIter i1 t1 i/\h.IsTupleIter i2 t2 i) where
  mem:=by simp
  obj:=fun i h ⟨zz,ti,⟨a,b,to⟩,⟨o1,h1,c1,d1⟩,⟨o2,h2,c2,d2⟩⟩ c hc=>by
    simp only[List.mem_cons,List.mem_nil_iff,or_false] at hc
    rcases hc with rfl | rfl | rfl | rfl | rfl
    · exact⟨_,zz,fun v q=>by cases q⟩
    · exact⟨_,ti,fun v q=>by cases q⟩
    · exact⟨_,to,fun v q=>by cases q⟩
    · exact⟨o1,h1,fun v q=>by rw[d1] at q;cases q⟩
    · exact⟨o2,h2,fun v q=>by rw[d2] at q;cases q⟩
  keep:=fun i h h' ⟨zz,ti,⟨a,b,to⟩,n1,n2⟩ k=>⟨k z (by simp) _ zz,k TI (by simp) _ ti,⟨a,b,k TO (by simp) _ to⟩,itAt n1 fun o e=>k i1 (by simp) o e,itAt n2 fun o e=>k i2 (by simp) o e⟩
  item:=by
    intro X hP hw hK hc i pins s σ H E I hf ht hg
    obtain⟨hi,q1,q2⟩:=hg
    subst hP hw hK
    obtain⟨vs,r1,p1,_⟩:=I.tuple q1
    obtain⟨us,r2,p2,_⟩:=I.tuple q2
    obtain⟨x,hx⟩:=some_of_lt hi
    obtain⟨y,hy⟩:=some_of_lt (show i < ys.length by rw[hl];exact hi)
    obtain⟨x',hx',rx⟩:=r1.get hx
    obtain⟨y',hy',ry⟩:=r2.get hy
    obtain⟨zz,ti,to,n1,n2⟩:=ht
    refine zipNext_yes (x:=x') (y:=y') D ⟨zz,ti,to,n1,n2,p1,p2⟩ (by simpa using hx') (by simpa using hy') fun h1 S1 pr k1=>?_
    refine⟨_,rfl,wpAny_letOwnedTupleGo_zip S1.zz fun h2 z2 k2=>?_⟩
    have lt:∀ {c:Addr} {o:Obj},s.heap.get? c=some o->s.heap.objs.size ≠ c:=fun e=>Nat.ne_of_gt (Heap.lt_size e)
    have e2:∀ c o,c ∉ [z,TO,i1,i2]->s.heap.get? c=some o->h2.get? c=some o:=fun c o hc e=>by
      simp only[List.mem_cons,List.mem_nil_iff,or_false,not_or] at hc
      exact k2.extBut _ _ hc.1 (k1 c o hc.1 hc.2.1 hc.2.2.1 hc.2.2.2 e)
    have tp:IsTup h2 s.heap.objs.size [x',y'].toArray:=⟨_,k2.extBut _ _ (lt zz) pr,rfl,_,rfl⟩
    refine⟨.ref s.heap.objs.size,upd H s.heap.objs.size (.tup [x,y]),I.turnedT (wr:=[z,TO,i1,i2]) e2 (fun b hb=>hf b ?_) (Nat.le_refl _) (by show 2 <= sizeLine;decide) (.cons rx (.cons ry .nil)) tp (.inr fun u q=>by rw[k2.extBut _ _ (lt zz) pr] at q;cases q;rfl),rfl,⟨_,_,rfl,I.hok.fresh (Nat.le_refl _),⟨x,y,hx,hy,rfl⟩,rfl⟩,?_,fun b hb=>?_⟩
    · simp only[List.mem_cons,List.mem_nil_iff,or_false] at hb ⊢
      rcases hb with h | h | h | h
      · exact .inl h
      · exact .inr (.inr (.inl h))
      · exact .inr (.inr (.inr (.inl h)))
      · exact .inr (.inr (.inr (.inr h)))
    · obtain⟨a,b,to1⟩:=S1.to
      exact⟨z2,k2.extBut _ _ D.a1 S1.ti,⟨a,b,k2.extBut _ _ D.a2 to1⟩,itAt S1.n1 fun o e=>k2.extBut _ _ D.a3 e,itAt S1.n2 fun o e=>k2.extBut _ _ D.a4 e⟩
    · obtain⟨a',b',to0⟩:=to
      obtain⟨o1,ho1,_⟩:=n1
      obtain⟨o2,ho2,_⟩:=n2
      have f:=(hf b hb).1
      simp only[List.mem_cons,List.mem_nil_iff,or_false] at hb
      rw[upd_ne]
      · exact f
      · rcases hb with rfl | rfl | rfl | rfl | rfl
        · exact (lt zz).symm
        · exact (lt ti).symm
        · exact (lt to0).symm
        · exact (lt ho1).symm
        · exact (lt ho2).symm
  done:=by
    intro X hP hw hK hc i pins s σ H E I hf ht hg
    obtain⟨hi,q1,q2⟩:=hg
    subst hP hw hK hi
    obtain⟨vs,r1,p1,_⟩:=I.tuple q1
    obtain⟨us,r2,p2,_⟩:=I.tuple q2
    obtain⟨zz,ti,to,n1,n2⟩:=ht
    have hl1:=r1.length
    refine zipNext_no (I.ok.hd hc) D ⟨zz,ti,to,n1,n2,p1,p2⟩ (by simp;omega) fun h1 k1=>⟨rfl,I.turnedL (t':=s.toks) (wr:=[z,TO,i1,i2]) (fun c o hc e=>?_) fun b hb=>hf b ?_⟩
    · simp only[List.mem_cons,List.mem_nil_iff,or_false,not_or] at hc
      exact k1 c o hc.1 hc.2.1 hc.2.2.1 hc.2.2.2 e
    · simp only[List.mem_cons,List.mem_nil_iff,or_false] at hb ⊢
      rcases hb with h | h | h | h
      · exact .inl h
      · exact .inr (.inr (.inl h))
      · exact .inr (.inr (.inr (.inl h)))
      · exact .inr (.inr (.inr (.inr h)))
  self:=fun _ _ _ _ _ st h=>wpAny_pyIter_zip st.1 h
section
variable {X:Cx} {elts:List Expr} {k:Nat} {tpos:Pos}
def iZip (K:PySem.W.Frag) (ta:TA):TI:=fun σ H R=>ta σ H fun vs H1=>∃ a b xs ys,vs=[.ref a,.ref b]/\SqT K H1 a xs/\SqT K H1 b ys/\ys.length=xs.length/\R (ItW xs.length (fun H=>SqT K H a xs/\SqT K H b ys) (rZip xs ys)) H1
theorem pi_zipT {a b:Expr} {ta:TA} {p pos:Pos} (hg:Gl X "zip") (hm:X.mg "zip" = none) (ha:PA X [a,b] ta) (hs:starEach [a,b] X.env=[(false,eval a X.env),(false,eval b X.env)]:=by rfl) (hs2:starEach [b] X.env=[(false,eval b X.env)]:=by rfl) :
    PI X (.Tuple elts k tpos) (.Call (.Name "zip" p) [a,b] [] pos) (iZip X.K ta):=by
  intro pins s σ H R I h
  refine Call_ (ld_blt I hg hm boot_zip (PyProof.Rows.callWith_type1 (thn (ha pos pins s σ H _ I h) fun us s1 ⟨vs,H1,I1,r1,q1⟩=>?_) (by rw[hs,hs2]) (by rw[hs2];rfl)))
  obtain⟨a,b,xs,ys,e,h1,h2,hl,q⟩:=q1
  subst e
  cases r1 with
  | cons r rr=>
    cases rr with
    | cons r' rr=>
      cases rr
      cases r
      cases r'
      obtain⟨vs1,_,p1,_⟩:=I1.tuple h1
      obtain⟨vs2,_,p2,_⟩:=I1.tuple h2
      have la:a < s1.heap.objs.size:=let ⟨_,e,_⟩:=p1;Heap.lt_size e
      have lb:b < s1.heap.objs.size:=let ⟨_,e,_⟩:=p2;Heap.lt_size e
      refine zipCall (show s1.heap.IsTuple a vs1.toArray from p1) (show s1.heap.IsTuple b vs2.toArray from p2) fun h' S kp=>wpAny_pyIter_zip S.zz ?_
      have I2:Inv X pins σ H1 { s1 with heap:=h' }:=I1.kept (t':=s1.toks) kp
      refine⟨s1.heap.objs.size+4,[s1.heap.objs.size+4,s1.heap.objs.size+2,s1.heap.objs.size+3,s1.heap.objs.size,s1.heap.objs.size+1],_,_,H1,rfl,I2,turn_zipT (t1:=a) (t2:=b) ⟨?_,?_,?_,?_,?_,?_,?_,?_,?_,?_,?_,?_,?_,?_,?_,?_,?_,?_⟩ hl,⟨S.zz,S.ti,S.to,S.n1,S.n2⟩,?fp,q⟩
      case fp=>
       intro b hb
       have hb':s1.heap.objs.size <= b:=by
        simp only[List.mem_cons,List.mem_nil_iff,or_false] at hb
        rcases hb with rfl | rfl | rfl | rfl | rfl
        · exact Nat.le_add_right _ _
        · exact Nat.le_add_right _ _
        · exact Nat.le_add_right _ _
        · exact Nat.le_refl _
        · exact Nat.le_add_right _ _
       exact I1.fpOk hb' (I1.hok.fresh hb')
      all_goals first
        | exact ndA (by omega)
        | exact Nat.ne_of_lt (Nat.lt_of_lt_of_le la (Nat.le_add_right _ _))
        | exact Nat.ne_of_lt (Nat.lt_of_lt_of_le lb (Nat.le_add_right _ _))
        | exact Nat.ne_of_lt la
        | exact Nat.ne_of_lt lb
theorem qi_zipT {a b:Expr} {ta:TA} {p pos:Pos} (hg:Gl X "zip") (hm:X.mg "zip" = none) (ha:QA X [a,b] ta) (hs:starEach [a,b] X.env=[(false,eval a X.env),(false,eval b X.env)]:=by rfl) (hs2:starEach [b] X.env=[(false,eval b X.env)]:=by rfl) :
    QI X (.Tuple elts k tpos) (.Call (.Name "zip" p) [a,b] [] pos) (iZip X.K ta):=⟨pi_zipT hg hm ha.h hs hs2⟩
end
end L2
namespace L2
open PySem PySem.Spec PyProof.Rows
end L2
namespace L2
open PySem PySem.Spec PyProof.Rows
section
variable {prog:Program} {w:World} {A:Around} {E:Value->Shared->Prop} {s:Shared}
end
section
variable {X:Cx} {elts:List Expr} {k:Nat} {tpos:Pos}
end
end L2
namespace L2
open PySem PySem.Spec PyProof.Rows
section
variable {X:Cx}
end
end L2
namespace L2
open PySem PySem.Spec PyProof.Rows
section
variable {prog:Program} {w:World} {A:Around} {E:Value->Shared->Prop} {s:Shared}
end
section
variable {X:Cx} {e:Expr} {te:TE} {p1 p2 q1 q2:Pos}
end
end L2
namespace TR
open PySem L2 TM
section
variable {most n:Nat} {R:Nat->Rw} {tr:Nat->Tr}
end
end TR
namespace L2
open PySem PySem.Spec PyProof.Rows
section
variable {X:Cx} {C a:Addr} {cls a0 fl fl':Value} {H':Hp} {B h':Heap} {s':Shared}
end
section
variable {P:Program} {w:World} {K:PySem.W.Frag} {mg:Str->Option Value} {base:Heap} {N:List Str} {qual:Str} {scope:Scope} {f:Addr} {cd:Value} {A:Around} {outer:List Env} {s₀:Shared} {H₀:Hp} {E:XK}
end
end L2
namespace L2
open PySem PySem.Spec PyProof.Rows
def tTryA (K:PySem.W.Frag) (Dc:Addr) (i j:Nat) (sp:Sp) (t:TA) (ts:TS):TS:=fun D σ H=>t σ H fun vs H1=>sp vs H1 (fun v H2=>D.nx (σ.set j (some v)) H2) fun cls _ H2=>∃ C,cls=.ref C/\ExcC K C/\PySem.W.mroIn K C (.ref Dc)=some true /\
  ∀ a,H2 a=none->ts { nx:=fun σ' H'=>D.nx (σ'.set i none) H',rt:=fun _ _=>False,bk:=fun _ _=>False,ct:=fun _ _=>False } (σ.set i (some (.ref a))) (upd H2 a (excO a C))
section
variable {X:Cx} {k:Nat} {f Dc:Addr} {fd:FuncData} {ps:List Str} {sp:Sp} {x dn n y:Str} {i j:Nat} {p cpos epos np hpos pos yp:Pos} {e:Expr} {es:List Expr} {t:TA} {ts:TS} {b0:Stmt} {suite:List Stmt}
theorem ps_tryA (F:FnOk X.prog X.w X.K X.mg X.base (CXe X.prog X.w) k f fd ps sp) (hr:Room k X.A) (hg:Gl X x) (hm:X.mg x=some (.ref f)) (hk:PySem.W.keepIn X.K (.ref f)=true) (hb:Binds X.K fd ps [])
    (ha:PA X.nox (e::es) t) (hgD:Gl X dn) (hmD:X.mg dn=some (.ref Dc)) (hD:ExcC X.K Dc) (hN:X.N.Nodup) (hi:X.N[i]?=some n) (hn:X.env.scope.names.lookup n=some .local) (hstk:X.stack=X.env::X.outer) (hfr:X.env.frame=some X.env.locals) (hex:X.ex=[])
    (hj:X.N[j]?=some y) (hy:X.env.scope.names.lookup y=some .local) (hs:∀ a,PSs (X.hand a) (b0::suite) ts)
    (hdb:(x == ("__debug__" : Str))=false:=by decide) (hdd:(dn == ("__debug__" : Str))=false:=by decide) (he:starEach (e::es) X.env=(false,eval e X.env)::starEach es X.env:=by rfl) (hpl:(backTo cpos (starEach es X.env)).any (·.1)=false:=by rfl)
    (hsw:swapsWith (.Call (.Name x p) (e::es) [] cpos) (some (.Name y yp)) epos.line X.env=pure false:=by rfl) :
    PS X (.Try [.Assign [.Name y yp] (.Call (.Name x p) (e::es) [] cpos) epos] [.ExceptHandler (some (.Name dn np)) (some n) (b0::suite) hpos] [] [] pos) (tTryA X.K Dc i j sp t ts):=by
  intro pins s σ H D I h
  refine wpAny_Try_except (wpAny_execs_cons (wpAny_Assign_Name (wpAny_Call_Name_kw (ld_glob I hg hm ?_ hdb)) hsw))
  refine PySem.W.callWith_K (h₀:=X.base) I.ok.mod.kin hk (wpAny_mono (ha cpos pins s σ H _ (I.wish _) h) (fun us s1 ⟨vs,H1,I1n,r,q⟩=>⟨I1n.kIn,?_⟩) fun _ _ z=>z.elim) he hpl
  have I1:Inv X pins σ H1 s1:=I1n.unwish
  have hl:(us++[]).length=ps.length:=by rw[List.append_nil,<- r.length];exact F.len _ _ _ _ q
  have hbb:=hb s1 us I1.kIn hl
  rw[List.append_nil] at hbb
  refine wpAny_call (codeAny_mono (F.run X.A X.stack s1 H1 ⟨us,[]⟩ us vs _ _ hr I1.env0 hbb r q) fun res s' hq=>?_)
  cases res with
  | ok fl=>
    cases fl with
    | ret u=>
      obtain⟨v,H2,I2,r2,q2⟩:=I1.after hq
      exact store_ok I2 hN hj (.inl hy) r2 (fun s2 I3=>wpAny_execs_nil (wpAny_execs_nil ⟨_,H2,I3,q2⟩)) (.inr hy)
    | next=>exact False.elim hq
    | brk=>exact False.elim hq
    | cont=>exact False.elim hq
  | error ev=>
    obtain⟨a,cls,H2,rfl,x,C,rfl,hC,hmro,q2⟩:=hq
    obtain⟨B,a0,fly,big⟩:=x.fly
    have hfrm:X.A.frames=some (X.env::X.outer):=by rw[<- hstk];exact I.ok.frames
    rw[hstk] at fly
    have keep:∀ h6:Heap,B.StaysIn h6->s'.heap.UpToSlots h6->∀ tk:Nat,Inv X pins σ H2 { s' with heap:=h6,toks:=tk }:=fun h6 st up tk=>by
      have slots:∀ b o,s'.heap.get? b=some o->b ∈ frs X.stack->∃ sl,h6.get? b=some { o with slots:=sl }:=fun b o e hb=>by
        rw[hstk] at hb
        obtain⟨_,o',e',nf⟩:=fly.2.2.1.mem hb
        rw[e] at e'
        cases e'
        exact up b o e nf
      have hfree':∀ b ∈ frs X.stack,H2 b=none:=fun b hb=>by
        obtain⟨_,o,e,_⟩:=I1.stack.mem hb
        exact x.un.free b o e (I1.stkFree b hb) (by simp)
      refine I1.call' (ch:=[]) x.os (x.un.fly (fun b hb=>.inl hb) st (fun b o e n hb=>big b o hb n e) slots fun b hb=>hb) (x.hok.fly hfree' st (fun b o e n hb=>big b o (.inl hb) n e)) x.bare (fun b z=>absurd z (by simp))
    refine wpAny_looks_onW hfrm hfr fly fun h4 held4 sm4=>wpAny_landsW held4 fun h5 fl5 sm5=>?_
    have I5:=keep h5 fl5.1 (sm4.trans sm5) s'.toks
    obtain⟨oe,hoe,hoc⟩:=fl5.there
    refine wpAny_handleBy_cons (codeAny_handlers_test (ld_glob (I5.hand a) hgD hmD (excMatches_own (K:=X.K) I5.kIn hC hD hoe hoc hmro ?_) hdd)) (by intro z;cases z)
    refine codeAny_handlers_suite_as (lands_againW fl5 fun h6 fl6 sm6=>?_)
    have I6:=keep h6 fl6.1 ((sm4.trans sm5).trans sm6) s'.toks
    obtain⟨oe6,hoe6,hoc6⟩:=fl6.there
    have hnew1:s1.heap.get? a=none:=x.new
    have I7:Inv X pins σ (upd H2 a (excO a C)) { s' with heap:=h6 }:=by
      refine I6.track x.free (fun u z=>?_) ⟨⟨oe6,hoe6,hoc6⟩,⟨oe6,hoe6⟩,fun h1 h2 ⟨o,e1,e2⟩ st=>⟨o,st o e1,e2⟩⟩ (fun z=>?_) (fun y c e z=>?_) (fun p hp z=>?_)
      · obtain⟨o',e1⟩:=I1.base.there a u z (by rw[hex];simp)
        rw[hnew1] at e1
        cases e1
      · obtain⟨m,hns,_⟩:=I1.loc
        obtain⟨oL,_,_,hoL,_⟩:=hns
        rw[<- z,hnew1] at hoL
        cases hoL
      · obtain⟨v,oc,hoc',_⟩:=I1.cell y c e
        rw[z,hnew1] at hoc'
        cases hoc'
      · obtain⟨e1,_⟩:=I1.pin p hp
        rw[z,hnew1] at e1
        cases e1
    refine store_ok (X:=X.hand a) (v:=.ref a) (I7.hand a) hN hi (.inl hn) rfl (fun s7 I8=>?_) (.inr hn)
    refine wpAny_mono (hs a pins s7 _ _ _ I8 (q2 a x.free)) (fun fw s8 hfw=>?_) fun _ _ z=>z.elim
    cases fw with
    | next=>
      obtain⟨σ',H9,I9,q9⟩:=hfw
      have I9':=I9.unhand I.ok
      obtain⟨m,hns,hloc⟩:=I9'.loc
      refine wpAny_nameGoes_keeps hn hns (by rw[I.ok.kind];rfl) fun h10 v hn10 hs10=>?_
      exact⟨σ'.set i none,H9,I9'.gone hN hi hns hloc hn10 hs10,q9⟩
    | ret u=>
      obtain⟨_,_,_,_,_,z⟩:=hfw
      exact z.elim
    | brk=>
      obtain⟨_,_,_,z⟩:=hfw
      exact z.elim
    | cont=>
      obtain⟨_,_,_,z⟩:=hfw
      exact z.elim
theorem qs_tryA (F:FnOk X.prog X.w X.K X.mg X.base (CXe X.prog X.w) k f fd ps sp) (hr:Room k X.A) (hg:Gl X x) (hm:X.mg x=some (.ref f)) (hk:PySem.W.keepIn X.K (.ref f)=true) (hb:Binds X.K fd ps [])
    (ha:QA X.nox (e::es) t) (hgD:Gl X dn) (hmD:X.mg dn=some (.ref Dc)) (hD:ExcC X.K Dc) (hN:X.N.Nodup) (hi:X.N[i]?=some n) (hn:X.env.scope.names.lookup n=some .local) (hstk:X.stack=X.env::X.outer) (hfr:X.env.frame=some X.env.locals) (hex:X.ex=[])
    (hj:X.N[j]?=some y) (hy:X.env.scope.names.lookup y=some .local) (hs:∀ a,QSs (X.hand a) (b0::suite) ts)
    (hdb:(x == ("__debug__" : Str))=false:=by decide) (hdd:(dn == ("__debug__" : Str))=false:=by decide) (he:starEach (e::es) X.env=(false,eval e X.env)::starEach es X.env:=by rfl) (hpl:(backTo cpos (starEach es X.env)).any (·.1)=false:=by rfl)
    (hsw:swapsWith (.Call (.Name x p) (e::es) [] cpos) (some (.Name y yp)) epos.line X.env=pure false:=by rfl) :
    QS X (.Try [.Assign [.Name y yp] (.Call (.Name x p) (e::es) [] cpos) epos] [.ExceptHandler (some (.Name dn np)) (some n) (b0::suite) hpos] [] [] pos) (tTryA X.K Dc i j sp t ts):=
  ⟨ps_tryA F hr hg hm hk hb ha.h hgD hmD hD hN hi hn hstk hfr hex hj hy (fun a=>(hs a).h) hdb hdd he hpl hsw⟩
end
end L2
namespace L2
open PySem PySem.Spec PyProof.Rows
namespace Det
variable {α β:Type}
end Det
section
variable {M:Model} {A:Around} {E:Value->Shared->Prop} {s:Shared}
end
section
variable {P:Program} {w:World} {K:PySem.W.Frag} {mg:Str->Option Value} {base:Heap} {N:List Str} {qual:Str} {scope:Scope} {f:Addr} {cd:Value} {A:Around} {outer:List Env} {s₀:Shared} {H₀:Hp} {E:XK}
end
section
variable {prog:Program} {w:World} {A:Around} {E:Value->Shared->Prop} {s:Shared} {env:Env}
variable {nm q:Str} {C N:Addr} {bs bm bmB:List Value} {hdc:Bool} {sn:List Str} {sbc:List Value} {ab:Bool} {clt:Option Bool} {dd:Option Addr} {k0 k1 k2 k3 k5:Option Value} {B newId initId:String}
end
section
variable {X:Cx} {pins:List (Addr × Obj)} {σ:St} {H H':Hp} {s s':Shared} {M:Model} {E':Value->Shared->Prop} {a:Addr} {cls:Value}
end
section
variable {P:Program} {w:World} {K:PySem.W.Frag} {mg:Str->Option Value} {base:Heap} {N:List Str} {qual:Str} {scope:Scope} {f:Addr} {cd:Value} {A:Around} {outer:List Env} {s₀:Shared} {H₀:Hp} {E:XK}
end
section
variable {X:Cx} {k:Nat} {f Dc C2:Addr} {fd:FuncData} {ps:List Str} {sp:Sp} {x dn cn:Str} {p cpos epos np hpos pos cnp cpos2 rpos2 kp:Pos} {ck:Nat} {e e2:Expr} {es es2:List Expr} {t t2:TA} {EX:Hp->Prop}
end
section
variable {P:Program} {w:World} {K:PySem.W.Frag} {mg:Str->Option Value} {base:Heap}
end
end L2
namespace L2
open PySem PySem.Spec PyProof.Rows
end L2
namespace TM
open PySem L2
end TM
namespace L2
open PySem PySem.Spec PyProof.Rows TM
section
variable {X:Cx} {K:PySem.W.Frag} {e:Expr} {te:TE} {p1 p2 q1 q2:Pos}
end
section
variable {K:PySem.W.Frag} {a:Addr} {xs:List V} {js:List Nat} {te:TE} {σ:St} {Q:VK} {D:Addr} {H1:Hp} {α:Type} {R:Hp->α->V->Prop} {as:List α}
end
end L2
namespace L2
open PySem PySem.Spec PyProof.Rows
theorem qps_cons {X:Cx} {pos:Pos} {k v:Expr} {ks:List (Option Expr)} {vs:List Expr} {tk tv:TE} {trs:List (TE × TE)} (hk:QE X k tk) (hv:QE X v tv) (hr:PPs X pos ks vs trs):PPs X pos (some k::ks) (v::vs) ((tk,tv)::trs):=pps_cons hk.h hv.h hr
theorem qe_disp {X:Cx} {pos:Pos} {keys:List (Option Expr)} {values:List Expr} {trs:List (TE × TE)} (h:PPs X pos keys values trs) (hall:keys.all (·.isSome)=true:=by rfl) (hl:keys.length=values.length:=by rfl) (h0:keys ≠ []:=by simp) (h15:keys.length <= 15:=by decide):QE X (.Dict keys values pos) (tDisp trs):=⟨pe_disp h hall hl h0 h15⟩
end L2
namespace L2
open PySem PySem.Spec PyProof.Rows
noncomputable def pinO (d:Addr) (o:Obj):HO:=.ext fun h=>h.get? d=some o
theorem pin_ok {P:Program} {w:World} {H:Hp} {h:Heap} {d:Addr} {o:Obj} (e:h.get? d=some o):ObjOk P w H h d (pinO d o):=⟨e,⟨o,e⟩,fun _ _ a k=>k o a⟩
theorem pin_at {P:Program} {w:World} {H:Hp} {h:Heap} {d:Addr} {o:Obj} (ok:HOk P w H h) (e:H d=some (pinO d o)):h.get? d=some o:=(show ObjOk P w H h d (pinO d o) from ok d _ e).1
section
variable {P:Program} {w:World} {A:Around} {E:Value->Shared->Prop} {s:Shared} {it d:Addr} {o:Obj} {es:Array DictEntry} {i n ep:Nat} {ok ov:Value}
end
section
variable {P:Program} {w:World} {K:PySem.W.Frag} {elts:List Expr} {k:Nat} {tpos:Pos}
end
section
variable {X:Cx} {elts:List Expr} {k:Nat} {tpos:Pos} {e:Expr} {te:TE} {apos cpos:Pos}
end
section
variable {X:Cx} {e:Expr} {te:TE} {apos cpos:Pos}
end
end L2
namespace L2
open PySem PySem.Spec PyProof.Rows
section
variable {prog:Program} {w:World} {A:Around} {E:Value->Shared->Prop} {s:Shared}
end
section
variable {X:Cx} {e:Expr} {te:TE} {p1 p2 q1 q2:Pos}
end
section
variable {X:Cx}
end
end L2
namespace L2
open PySem PySem.Spec PyProof.Rows TM
section
variable {K:PySem.W.Frag} {a:Addr} {xs:List V} {js:List Nat} {g:TG} {n:Nat} {te:TE} {σ:St} {Q:VK} {D:Addr} {H1:Hp} {α:Type} {R:Hp->α->V->Prop} {as:List α}
theorem comp_tupR (st:OffD D R) (hz:xs.length < sizeLine) (hlen:as.length=xs.length) (ha:SqT K H1 a xs) (hD:H1 D=none)
    (he:∀ (i:Nat) (x:V) (b:α) (H:Hp),xs[i]?=some x->as[i]?=some b->Same H1 H->(∃ acc,H D=some (.lst acc))->∀ Q':VK,(∀ y H',Same H H'->R H' b y->Q' y H')->te (some x::compS js σ) H Q')
    (hq:∀ ys H',Same H1 H'->H' D=some (.lst ys)->L2R (R H') as ys->Q (.ref D) H'):CompW (Itt K a) js tYes te σ Q D H1:=by
  refine comp_tpl (K:=K) (a:=a) (xs:=xs) (fun i acc H=>i <= xs.length/\Same H1 H/\H D=some (.lst acc)/\L2R (R H) (as.take i) acc) hz ⟨Nat.zero_le _,same_new hD _,upd_same,.nil⟩ (fun i acc H ⟨l,s,d,r⟩=>⟨d,?_,Same.tupS s ha⟩) ?_ ?_
  · rw[r.len,List.length_take]
    omega
  · rintro i m x acc H hi ⟨l,s,d,r⟩ hm
    have hlt:=lt_of_some hi
    obtain⟨b,hb⟩:=some_of_lt (xs:=as) (i:=i) (by omega)
    refine he i x b H hi hb s ⟨_,d⟩ _ fun y H4 s4 r4=>⟨s4 _ _ d,xs.length - (i+1),by omega,rfl,hlt,hlt,same_upd hD (s.trans s4),upd_same,?_⟩
    have k:∀ c o,c ≠ D->H4 c=some o->upd H4 D (.lst (acc++[y])) c=some o:=fun c o hc e=>by rw[upd_ne hc];exact e
    rw[take_snocA hb]
    exact (r.imp fun b v r=>st _ _ _ b v (s4 _ _ d) k (st _ _ _ b v d (fun c o _ e=>s4 c o e) r)).snoc (st _ _ _ b y (s4 _ _ d) k r4)
  · rintro acc H ⟨l,s,d,r⟩
    rw[List.take_of_length_le (by omega)] at r
    exact hq acc H s d r
end
end L2
namespace L2
open PySem PySem.Spec PyProof.Rows
section
variable {P:Program} {w:World} {A:Around} {E:Value->Shared->Prop} {s:Shared}
end
section
variable {X:Cx} {e:Expr} {te:TE} {p1 p2 q1 q2:Pos}
end
end L2
namespace L2
open PySem PySem.Spec PyProof.Rows
section
variable {P:Program} {w:World} {A:Around} {E:Value->Shared->Prop}
end
end L2
namespace L2
open PySem PySem.Spec PyProof.Rows
end L2
namespace L2
open PySem PySem.Spec PyProof.Rows
section
variable {prog:Program} {w:World} {A:Around} {E:Value->Shared->Prop} {s:Shared}
end
end L2
namespace L2
open PySem PySem.Spec PyProof.Rows
section
variable {prog:Program} {w:World} {K N:Type} [DecidableEq K] [DecidableEq N] (κ:HeapKind prog w K) (ν:KeyKind prog w N)
variable {κ ν}
variable {A:Around} {E:Value->Shared->Prop} {s:Shared}
end
section
variable {prog:Program} {w:World} {A:Around} {E:Value->Shared->Prop} {s:Shared}
end
end L2
namespace L2
open PySem PySem.Spec PyProof.Rows
section
variable {X:Cx} {pins:List (Addr × Obj)} {σ:St} {H:Hp} {s:Shared} {a b:Addr} {v:V} {r:Value} {xs:List (SpK × Addr × V)} {k:SpK} {A:Around} {E:Value->Shared->Prop}
end
end L2
namespace L2
open PySem PySem.Spec PyProof.Rows
def RawD (h:Heap) (d:Addr) (es:Array DictEntry) (ep:Nat):Prop:=∃ o,h.get? d=some o/\o.ExactDict/\o.data=.dict es ep
theorem RawD.typeIs {s:Shared} {d:Addr} {es:Array DictEntry} {ep:Nat} (x:RawD s.heap d es ep):s.TypeIs (.ref d) "dict":=let ⟨o,e,c,_⟩:=x;⟨o,e,c.1⟩
section
variable {prog:Program} {w:World} {A:Around} {E:Value->Shared->Prop} {s:Shared} {d it:Addr} {es:Array DictEntry} {ep i:Nat}
theorem raw_iter {Q:Value->Shared->Prop} (ns:(d == sysModules)=false) (m:RawD s.heap d es ep)
    (q:Q (.ref s.heap.objs.size) { s with heap:=s.heap.push { cls:=.type "dict_keyiterator",data:=.fields #[.ref d,.int 0 0,.int es.size 0,.int ep 0] } }):wpAny (model prog w) A (pyIter (.ref d)) Q E s:=by
  have ty:=m.typeIs
  obtain⟨o,e1,_,e3⟩:=m
  refine wpAny_pyIter_slot ty F.slot_dict_iter (wpAny_call_entry F.slot_dict_iter ty F.entry_dict_iter ?_ (F.args_dict_iter_1 _))
  unfold Builtin.«dict.__iter__» Builtin.Dict.dictSlotNone
  refine wpAny_bind (wpAny_bind (wpAny_notOrdered_dict ty (wpAny_pure ?_)))
  show wpAny _ _ (Builtin.Dict.showsAll d >>= _) _ _ s
  unfold Builtin.Dict.showsAll
  rw[if_neg (by rw[ns];exact Bool.false_ne_true)]
  exact wpAny_bind (wpAny_pure (wpAny_bind (wpAny_dictEntries e1 e3 (wpAny_bind (wpAny_dictEpoch e1 e3 (wpAny_bind (wpAny_newObj_type (wpAny_pure ⟨_,rfl, "dict_keyiterator",_,⟨_,Heap.get?_push_size _ rfl,rfl⟩,F.slot_dict_keyiterator_next.lookup,by simpa [rawInt] using q⟩))))))))
theorem raw_next {e:DictEntry} {Q:Option Value->Shared->Prop} (hi:s.heap.IsKeyIter it d i es.size ep) (m:RawD s.heap d es ep) (hx:es[i]?=some e)
    (q:∀ h',h'.IsKeyIter it d (i+1) es.size ep->Heap.SameBut it s.heap h'->Q (some e.key) { s with heap:=h' }):wpAny (model prog w) A (pyNext (.ref it)) Q E s:=by
  have ti:=hi.typeIs
  obtain⟨o,e1,e2,e3⟩:=id hi
  obtain⟨od,d1,d2,d3⟩:=m
  have hlt:=(Array.getElem?_eq_some_iff.mp hx).1
  have hev:=(Array.getElem?_eq_some_iff.mp hx).2
  have hown:Builtin.Dict_items.ownsTuple "dict_keyiterator" = false:=by decide
  unfold pyNext
  refine wpAny_bind (wpAny_attempt (wpAny_callSpecial?_slot (name:=Str.ofString "__next__") ti F.slot_dict_keyiterator_next (wpAny_call_entry F.slot_dict_keyiterator_next ti F.entry_dict_keyiterator_next ?_ (F.args_dict_keyiterator_next_1 _))))
  refine wpAny_bind (wpAny_pure (wpAny_bind (wpAny_bind ?_)))
  first | refine wpAny_bind (wpAny_typeNameOfWhole_keyiter ti (wpAny_pure ?_)) | refine wpAny_bind (wpAny_typeNameOf_keyiter ti (wpAny_pure ?_))
  refine wpAny_bind (wpAny_fieldsOf e1 e3 ?_)
  simp only[hown,Bool.false_eq_true,if_false]
  show wpAny _ _ (if (Value.ref d == Value.none)=true then _ else _) _ _ s
  rw[if_neg (by exact Bool.false_ne_true)]
  refine wpAny_bind (wpAny_pure (wpAny_bind (wpAny_dictEntries d1 d3 ?_)))
  rw[if_neg (by simp)]
  refine wpAny_bind (wpAny_pure (wpAny_bind (wpAny_dictEpoch d1 d3 ?_)))
  rw[if_neg (by simp)]
  refine wpAny_pure ?_
  simp only[show ¬ ((i:Int) < 0) from by omega,if_false,Int.toNat_natCast,hx]
  refine wpAny_bind ?_
  first | refine wpAny_bind (wpAny_typeNameOfWhole_keyiter ti (wpAny_pure ?_)) | refine wpAny_bind (wpAny_typeNameOf_keyiter ti (wpAny_pure ?_))
  refine wpAny_bind (wpAny_isOneOf_keyiter ti ?_)
  show wpAny _ _ (setField (.ref it) 1 (rawInt ((i:Int)+1)) >>= _) _ _ s
  refine wpAny_bind (wpAny_setField e1 e3 (by simp) (wpAny_bind (wpAny_holding ?_)))
  have hi':(s.heap.update it (Obj.mapFields (·.setIfInBounds 1 (rawInt ((i:Int)+1))))).IsKeyIter it d (i+1) es.size ep:=⟨_,Heap.get?_update_self _ e1 (Obj.isFreed_of_fields (Obj.data_mapFields e3 _)),(Obj.cls_mapFields ..).trans e2,by rw[Obj.data_mapFields e3];simp[rawInt]⟩
  refine wpAny_bind (wpAny_isOneOf_keyiter (s:={ s with heap:=s.heap.update it (Obj.mapFields (·.setIfInBounds 1 (rawInt ((i:Int)+1)))) }) hi'.typeIs ?_)
  show wpAny _ _ (pure e.key) _ _ _
  exact wpAny_pure (wpAny_pure ⟨_,rfl,wpAny_pure (q _ hi' (Heap.SameBut.update ..))⟩)
theorem raw_end {Q:Option Value->Shared->Prop} (hh:A.handled=none) (hi:s.heap.IsKeyIter it d es.size es.size ep) (m:RawD s.heap d es ep)
    (q:∀ h',Heap.ExtBut it s.heap h'->Q none { s with heap:=h' }):wpAny (model prog w) A (pyNext (.ref it)) Q E s:=by
  have ti:=hi.typeIs
  obtain⟨o,e1,e2,e3⟩:=id hi
  obtain⟨od,d1,d2,d3⟩:=m
  have hown:Builtin.Dict_items.ownsTuple "dict_keyiterator" = false:=by decide
  have hx:es[es.size]?=none:=by simp
  unfold pyNext
  refine wpAny_bind (wpAny_attempt (wpAny_callSpecial?_slot (name:=Str.ofString "__next__") ti F.slot_dict_keyiterator_next (wpAny_call_entry F.slot_dict_keyiterator_next ti F.entry_dict_keyiterator_next ?_ (F.args_dict_keyiterator_next_1 _))))
  refine wpAny_bind (wpAny_pure (wpAny_bind (wpAny_bind ?_)))
  first | refine wpAny_bind (wpAny_typeNameOfWhole_keyiter ti (wpAny_pure ?_)) | refine wpAny_bind (wpAny_typeNameOf_keyiter ti (wpAny_pure ?_))
  refine wpAny_bind (wpAny_fieldsOf e1 e3 ?_)
  simp only[hown,Bool.false_eq_true,if_false]
  show wpAny _ _ (if (Value.ref d == Value.none)=true then _ else _) _ _ s
  rw[if_neg (by exact Bool.false_ne_true)]
  refine wpAny_bind (wpAny_pure (wpAny_bind (wpAny_dictEntries d1 d3 ?_)))
  rw[if_neg (by simp)]
  refine wpAny_bind (wpAny_pure (wpAny_bind (wpAny_dictEpoch d1 d3 ?_)))
  rw[if_neg (by simp)]
  refine wpAny_pure ?_
  simp only[show ¬ ((es.size:Int) < 0) from by omega,if_false,Int.toNat_natCast,hx]
  refine wpAny_bind ?_
  first | refine wpAny_bind (wpAny_typeNameOfWhole_keyiter ti (wpAny_pure ?_)) | refine wpAny_bind (wpAny_typeNameOf_keyiter ti (wpAny_pure ?_))
  show wpAny _ _ (setField (.ref it) 0 .none >>= _) _ _ s
  refine wpAny_bind (wpAny_setField e1 e3 (by simp) ?_)
  show wpAny _ _ (newExc (.type "StopIteration") [] >>= _) _ _ _
  refine wpAny_bind ?_
  simp only[newExc,newTuple]
  refine wpAny_bind (wpAny_newObj_type ?_ (by size_fits))
  refine wpAny_bind (m:=firstArgMember _ _) (wpAny_of_eq (a:=Value.none) (by first | rfl | (simp only[firstArgMember];rfl)) (wpAny_newObj_type ?_ (by size_fits)))
  simp only[raiseNew]
  refine wpAny_bind (wpAny_handled ?_)
  rw[show A.in1.handled=none from hh]
  refine wpAny_bind (wpAny_pure (wpAny_throw ?_))
  refine wpAny_bind (wpAny_isInstance (T:="StopIteration") (b:=true) ⟨_,Heap.get?_push_size _ rfl,rfl⟩ isSubtype_stop ?_)
  exact wpAny_pure (q _ (((Heap.SameBut.update ..).extBut.push _).push _))
end
section
variable {X:Cx} {e:Expr} {te:TE} {p1 q1:Pos}
end
end L2
namespace L2
open PySem PySem.Spec PyProof.Rows
section
variable {X:Cx}
end
end L2
namespace L2
open PySem PySem.Spec PySem.Calls PyProof.Rows Builtin Builtin.Tuple
section
variable {X:Cx}
end
end L2
namespace L2
open PySem PySem.Spec PyProof.Rows
def gLst (K:PySem.W.Frag) (n:Nat) (t:TGs):TG:=fun v σ H Q=>∃ a xs,v=.ref a/\SqL K H a xs/\xs.length=n/\t xs σ H Q
theorem qg_lst {X:Cx} {pos:Pos} {es:List Expr} {k:Nat} {t:TGs} {n:Nat} (hc:X.calm=true) (h:QGs X es t) (hn:(assignEach es X.env).length=n:=by rfl) (hst:(assignEach es X.env).findIdx? (·.1)=none:=by rfl):QG X (.Tuple es k pos) (gLst X.K n t):=⟨by
  intro pins s σ H v u Q I r hw
  obtain⟨a,xs,e1,hq,hl,hw⟩:=hw
  subst e1
  cases r
  obtain⟨its,rv,ht,hz⟩:=I.list hq
  rw[assign_Tuple]
  refine wpAny_bind (wpAny_standAt ?_)
  unfold unpack
  rw[show (assignEach es X.env).length=its.toArray.size by simp[hn,<- hl,rv.length],hst]
  refine wpAny_bind (wpAny_holding (PySem.W.kun_itemsOf (I.ok.hd hc) ht.isList fun h' hx=>?_))
  have I1:Inv X pins σ H { s with heap:=h' }:=I.kept (t':=s.toks) fun b o e=>hx b o (Nat.ne_of_lt (Heap.lt_size e)) e
  exact h.h pins _ σ H xs _ Q I1 (by simpa using rv) hw⟩
end L2
namespace L2
open PySem PySem.Spec PyProof.Rows
structure KH (P:Program) (w:World) (K:Type) [DecidableEq K] where
  kind:HeapKind P w K
  key:Hp->K->Addr->Prop
  same:∀ {H H':Hp} {k:K} {a:Addr},(∀ b ys,H b=some (.tup ys)->H' b=some (.tup ys))->key H k a->key H' k a
  is:∀ {H:Hp} {h:Heap} {k:K} {a:Addr},HOk P w H h->key H k a->kind.is h k a
  room:∀ {A:Around},A.units+80 < cLine->kind.room A.in1
noncomputable def tupH (P:Program) (w:World):KH P w (List Key):=⟨tupleKind (mixKind P w),fun H k a=>H a=some (.tup (k.map kV)),fun e h=>e _ _ h,key_of,fun hu=>tupleKind_room_in1 (by omega)⟩
section
variable {K:Type} [DecidableEq K]
noncomputable def valH (xs:List (K × Addr × V)) (k:K):Option V:=(xs.find? fun x=>decide (x.1=k)).map (·.2.2)
noncomputable def putH (xs:List (K × Addr × V)) (k:K) (a:Addr) (v:V):List (K × Addr × V):=if (valH xs k).isSome then xs.map (fun x=>if x.1=k then (x.1,x.2.1,v) else x) else xs++[(k,a,v)]
theorem putH_len (xs:List (K × Addr × V)) (k:K) (a:Addr) (v:V):(putH xs k a v).length <= xs.length+1:=by
  unfold putH
  split
  · rw[List.length_map];omega
  · rw[List.length_append];exact Nat.le_refl _
theorem valH_cons (p:K × Addr × V) (xs:List (K × Addr × V)) (k:K):valH (p::xs) k=if p.1=k then some p.2.2 else valH xs k:=by
  unfold valH
  rw[List.find?_cons]
  by_cases e:p.1=k
  · rw[decide_eq_true e,if_pos e];rfl
  · rw[decide_eq_false e,if_neg e]
theorem valH_isSome (xs:List (K × Addr × V)) (k:K):(valH xs k).isSome=true ↔ k ∈ xs.map (·.1):=by
  induction xs with
  | nil=>simp[valH]
  | cons p xs ih=>
    rw[valH_cons,List.map_cons,List.mem_cons]
    by_cases e:p.1=k
    · rw[if_pos e];simp[e]
    · rw[if_neg e,ih]
      exact⟨.inr,fun z=>z.resolve_left fun y=>e y.symm⟩
theorem putH_keys (xs:List (K × Addr × V)) (k:K) (a:Addr) (v:V):(putH xs k a v).map (·.1)=if k ∈ xs.map (·.1) then xs.map (·.1) else xs.map (·.1)++[k]:=by
  unfold putH
  by_cases e:(valH xs k).isSome=true
  · rw[if_pos e,if_pos ((valH_isSome xs k).mp e),List.map_map]
    refine List.map_congr_left fun x _=>?_
    show (if x.1=k then (x.1,x.2.1,v) else x).1=x.1
    split <;> rfl
  · rw[if_neg e,if_neg (fun z=>e ((valH_isSome xs k).mpr z)),List.map_append]
    rfl
abbrev VH:List (K × Addr × V)->List (K × Addr × Value)->Prop:=Paired fun p q=>p.1=q.1/\p.2.1=q.2.1/\RelV p.2.2 q.2.2
theorem VH.val {xs:List (K × Addr × V)} {us:List (K × Addr × Value)} (r:VH xs us) (k:K):RelO (valH xs k) ((atKey us k).map (·.2)):=by
  induction r with
  | nil=>exact True.intro
  | @cons p q ps qs h t ih=>
    obtain⟨h1,_,h3⟩:=h
    unfold valH atKey at ih ⊢
    rw[List.find?_cons,List.find?_cons,<- h1]
    by_cases e:p.1=k
    · rw[decide_eq_true e];exact h3
    · rw[decide_eq_false e];exact ih
theorem VH.put {xs:List (K × Addr × V)} {us:List (K × Addr × Value)} (r:VH xs us) (k:K) {a:Addr} {v:V} {u:Value} (rv:RelV v u):VH (putH xs k a v) (storedH us k a u):=by
  have e:=(r.val k).isSome_eq
  rw[Option.isSome_map] at e
  unfold putH storedH
  rw[e]
  split
  · clear e
    rename_i hh
    clear hh
    induction r with
    | nil=>exact .nil
    | @cons p q ps qs h t ih=>
      obtain⟨h1,h2,h3⟩:=h
      refine .cons ?_ ih
      unfold putAt
      rw[<- h1]
      by_cases z:p.1=k
      · simp only[z,if_true]
        exact⟨trivial,h2,rv⟩
      · simp only[z,if_false]
        exact⟨h1,h2,h3⟩
  · exact Paired.snoc r ⟨rfl,rfl,rv⟩
theorem VH.keys {xs:List (K × Addr × V)} {us:List (K × Addr × Value)} (r:VH xs us):xs.map (·.1)=us.map (·.1):=by
  induction r with
  | nil=>rfl
  | cons h t ih=>rw[List.map_cons,List.map_cons,ih,h.1]
variable {P:Program} {w:World} (κ:KH P w K)
def ObH (a:Addr) (xs:List (K × Addr × V)) (o:Obj):Prop:=xs.length <= sizeLine/\(a == sysModules)=false/\∃ us es ep,VH xs us/\o.ExactDict/\o.data=.dict es ep/\es.toList=us.map (entryOfKey κ.kind)/\(us.map (·.1)).Nodup
def DH (H:Hp) (a:Addr) (xs:List (K × Addr × V)):Prop:=(∃ o,H a=some (pinO a o)/\ObH κ a xs o)/\∀ x ∈ xs,κ.key H x.1 x.2.1
variable {κ}
theorem DH.same {H H':Hp} {a:Addr} {xs:List (K × Addr × V)} (s:Same H H') (h:DH κ H a xs):DH κ H' a xs:=let ⟨⟨o,e,q⟩,k⟩:=h;⟨⟨o,s _ _ e,q⟩,fun x hx=>κ.same (fun b ys e=>s _ _ e) (k x hx)⟩
theorem DH.to {H H':Hp} {a:Addr} {xs:List (K × Addr × V)} (s:∀ b ys,H b=some (.tup ys)->H' b=some (.tup ys)) (e:H' a=H a) (h:DH κ H a xs):DH κ H' a xs:=let ⟨⟨o,e',q⟩,k⟩:=h;⟨⟨o,e.trans e',q⟩,fun x hx=>κ.same s (k x hx)⟩
theorem DH.nodup {H:Hp} {a:Addr} {xs:List (K × Addr × V)} (h:DH κ H a xs):(xs.map (·.1)).Nodup:=by
  obtain⟨⟨o,e,_,_,us,es,ep,r,_,_,_,n⟩,_⟩:=h
  rw[r.keys]
  exact n
theorem dh_of {H:Hp} {h:Heap} {a:Addr} {xs:List (K × Addr × V)} (ok:HOk P w H h) (d:DH κ H a xs):xs.length <= sizeLine/\(a == sysModules)=false/\∃ us,VH xs us/\h.DictOfH κ.kind a us:=by
  obtain⟨⟨o,e0,z,y,us,es,ep,r,e2,e3,e4,e5⟩,kk⟩:=d
  refine⟨z,y,us,r,o,es,ep,pin_at ok e0,e2,e3,e4,?_,e5⟩
  clear e4 e5 z
  induction r with
  | nil=>intro x hx;exact nomatch hx
  | @cons p q ps qs hq t ih=>
    intro x hx
    rcases List.mem_cons.mp hx with e | hx
    · subst e
      rw[<- hq.1,<- hq.2.1]
      exact κ.is ok (kk p List.mem_cons_self)
    · exact ih (fun x hx=>kk x (List.mem_cons_of_mem _ hx)) x hx
end
section
variable {X:Cx} {K:Type} [DecidableEq K] {κ:KH X.prog X.w K} {pins:List (Addr × Obj)} {σ:St} {H:Hp} {s:Shared} {a b:Addr} {v:V} {r:Value} {xs:List (K × Addr × V)} {k:K} {A:Around} {E:Value->Shared->Prop}
theorem h_getItem {Q:Value->Shared->Prop} (hu:A.units+80 < cLine) (I:Inv X pins σ H s) (d:DH κ H a xs) (ks:κ.key H k b) (hv:valH xs k=some v) (h:∀ w' s',Inv X pins σ H s'->RelV v w'->Q w' s') :
    wpAny (model X.prog X.w) A (getItem (.ref a) (.ref b)) Q E s:=by
  obtain⟨z,hd,us,rel,dd⟩:=dh_of I.hok d
  obtain⟨w',hw,rw'⟩:=RelO.some_of (v:=v) (o:=(atKey us k).map (·.2)) (by rw[<- hv];exact rel.val k)
  obtain⟨p,hp,hp2⟩:=Option.map_eq_some_iff.mp hw
  refine wpAny_getItem_heap (knd:=κ.kind) (κ.room hu) (κ.is I.hok ks) dd hp ?_
  rw[hp2]
  exact h w' _ (I.tok _) rw'
theorem h_in {Q:Value->Shared->Prop} (hu:A.units+80 < cLine) (I:Inv X pins σ H s) (d:DH κ H a xs) (ks:κ.key H k b) (h:∀ s',Inv X pins σ H s'->Q (.bool (valH xs k).isSome) s') :
    wpAny (model X.prog X.w) A (compareOp .In (.ref b) (.ref a)) Q E s:=by
  obtain⟨z,hd,us,rel,dd⟩:=dh_of I.hok d
  refine wpAny_in_heap (knd:=κ.kind) (κ.room hu) (κ.is I.hok ks) hd dd ?_
  have q:=(rel.val k).isSome_eq
  rw[Option.isSome_map] at q
  rw[<- q]
  exact h _ (I.tok _)
theorem h_notIn {Q:Value->Shared->Prop} (hu:A.units+80 < cLine) (I:Inv X pins σ H s) (d:DH κ H a xs) (ks:κ.key H k b) (h:∀ s',Inv X pins σ H s'->Q (.bool (!(valH xs k).isSome)) s') :
    wpAny (model X.prog X.w) A (compareOp .NotIn (.ref b) (.ref a)) Q E s:=by
  obtain⟨z,hd,us,rel,dd⟩:=dh_of I.hok d
  refine wpAny_notIn_heap (knd:=κ.kind) (κ.room hu) (κ.is I.hok ks) hd dd ?_
  have q:=(rel.val k).isSome_eq
  rw[Option.isSome_map] at q
  rw[<- q]
  exact h _ (I.tok _)
theorem h_setItem {Q:Unit->Shared->Prop} (hu:A.units+80 < cLine) (I:Inv X pins σ H s) (d:DH κ H a xs) (ks:κ.key H k b) (l:xs.length < sizeLine) (rv:RelV v r) (h:∀ o s',ObH κ a (putH xs k b v) o->Inv X pins σ (upd H a (pinO a o)) s'->Q () s') :
    wpAny (model X.prog X.w) A (setItem (.ref a) (.ref b) r) Q E s:=by
  obtain⟨z,hd,us,rel,dd⟩:=dh_of I.hok d
  have hz:us.length <= sizeLine:=by rw[<- Paired.length rel];exact z
  have hl:(putH xs k b v).length <= sizeLine:=by have:=putH_len xs k b v;omega
  refine wpAny_setItem_heap (hsz:=hz) (knd:=κ.kind) (κ.room hu) (κ.is I.hok ks) dd fun h' dd' hs=>?_
  obtain⟨q,es,ep,hq,h2,h3,h4,_,h5⟩:=dd'
  obtain⟨⟨o0,e0,_⟩,_⟩:=d
  exact h q _ ⟨hl,hd,_,es,ep,rel.put k rv,h2,h3,h4,h5⟩ (d_write I (by rw[e0];exact True.intro) hs ⟨q,hq⟩ (pin_ok hq))
theorem putH_key (h:∀ x ∈ xs,κ.key H x.1 x.2.1) (hk:κ.key H k a):∀ x ∈ putH xs k a v,κ.key H x.1 x.2.1:=fun x hx=>by
  unfold putH at hx
  split at hx
  · obtain⟨y,hy,rfl⟩:=List.mem_map.mp hx
    split
    · exact h y hy
    · exact h y hy
  · rcases List.mem_append.mp hx with g | g
    · exact h x g
    · rw[List.mem_singleton.mp g]
      exact hk
theorem DH.put {o:Obj} (d:DH κ H a xs) (ks:κ.key H k b) (ob:ObH κ a (putH xs k b v) o):DH κ (upd H a (pinO a o)) a (putH xs k b v):=by
  obtain⟨⟨o0,e0,_⟩,kk⟩:=d
  refine⟨⟨o,upd_same,ob⟩,fun x hx=>κ.same (fun c ys e=>?_) (putH_key kk ks x hx)⟩
  rw[upd_ne (ne_of e e0 (fun z=>nomatch z))]
  exact e
theorem op_inH (hu:X.A.units+80 < cLine):OpR X (compareOp .In) (fun x y H Q=>∃ a b xs k,x=.ref b/\y=.ref a/\DH κ H a xs/\κ.key H k b/\Q (.bl (valH xs k).isSome) H):=by
  intro pins s σ H x y v u Q I rx ry h
  obtain⟨a,b,xs,k,rfl,rfl,d,ks,q⟩:=h
  cases rx
  cases ry
  exact h_in hu I d ks fun s' I'=>⟨.bl _,H,I',rfl,q⟩
theorem op_notInH (hu:X.A.units+80 < cLine):OpR X (compareOp .NotIn) (fun x y H Q=>∃ a b xs k,x=.ref b/\y=.ref a/\DH κ H a xs/\κ.key H k b/\Q (.bl (!(valH xs k).isSome)) H):=by
  intro pins s σ H x y v u Q I rx ry h
  obtain⟨a,b,xs,k,rfl,rfl,d,ks,q⟩:=h
  cases rx
  cases ry
  exact h_notIn hu I d ks fun s' I'=>⟨.bl _,H,I',rfl,q⟩
def tDGetH {P:Program} {w:World} (κ:KH P w K) (td ty:TE):TE:=fun σ H Q=>td σ H fun x H1=>ty σ H1 fun y H2=>∃ a b xs k v,x=.ref a/\y=.ref b/\DH κ H2 a xs/\κ.key H2 k b/\valH xs k=some v/\Q v H2
theorem qe_dgetH {o i:Expr} {pos:Pos} {td ty:TE} (hu:X.A.units+80 < cLine) (ho:QE X o td) (hi:QE X i ty) (hs:NoSl i:=by intro _ _;rfl):QE X (.Subscript o i pos) (tDGetH κ td ty):=⟨fun pins s σ H Q I h=>by
  refine subD_of PySem.F.slot_dict_getitem.lookup hs (thn (ho.h pins s σ H _ I h) fun u s1 ⟨x,H1,I1,rx,q1⟩=>thn (hi.h pins s1 σ H1 _ I1 q1) fun iv s2 ⟨y,H2,I2,ry,a,b,xs,k,v,ex,ey,d,ks,hv,q2⟩=>?_)
  subst ex ey
  cases rx
  cases ry
  obtain⟨_,_,us,_,dd⟩:=dh_of I2.hok d
  exact⟨dd.typeIs,h_getItem hu I2 d ks hv fun w' s3 I3 rw'=>⟨v,H2,I3,rw',q2⟩⟩⟩
def sDPutH {P:Program} {w:World} (κ:KH P w K) (td ty tv:TE):TS:=fun D σ H=>tv σ H fun v H1=>td σ H1 fun x H2=>ty σ H2 fun y H3=>∃ a b xs k,x=.ref a/\y=.ref b/\DH κ H3 a xs/\κ.key H3 k b/\xs.length < sizeLine/\∀ o,ObH κ a (putH xs k b v) o->D.nx σ (upd H3 a (pinO a o))
theorem qs_dputH {o i value:Expr} {pos pos':Pos} {td ty tv:TE} (hu:X.A.units+80 < cLine) (ho:QE X o td) (hi:QE X i ty) (hv:QE X value tv) (hs:swapsWith value (some (.Subscript o i pos')) pos.line X.env=pure false:=by rfl):QS X (.Assign [.Subscript o i pos'] value pos) (sDPutH κ td ty tv):=⟨fun pins s σ H D I h=>by
  refine wpAny_Assign_Subscript (thn (hv.h pins s σ H _ I h) fun r s1 ⟨v,H1,I1,rv,q1⟩=>thn (ho.h pins s1 σ H1 _ I1 q1) fun u s2 ⟨x,H2,I2,rx,q2⟩=>thn (hi.h pins s2 σ H2 _ I2 q2) fun iv s3 ⟨y,H3,I3,ry,a,b,xs,k,ex,ey,d,ks,l,q3⟩=>?_) hs
  subst ex ey
  cases rx
  cases ry
  exact h_setItem hu I3 d ks l rv fun o s4 ob I4=>⟨σ,_,I4,q3 o ob⟩⟩
def tDNewH {P:Program} {w:World} (κ:KH P w K):TE:=fun _ H Q=>∀ p o,H p=none->ObH κ p [] o->Q (.ref p) (upd H p (pinO p o))
theorem qe_dnewH {pos:Pos}:QE X (.Dict [] [] pos) (tDNewH κ):=⟨fun pins s σ H Q I h=>by
  have e:(s.heap.push { cls:=.type "dict",data:=.dict #[] }).get? s.heap.objs.size=some { cls:=.type "dict",data:=.dict #[] }:=Heap.get?_push_size _ rfl
  refine wpAny_Dict_empty ⟨.ref s.heap.objs.size,_,I.laid (a:=s.heap.objs.size) (o:=pinO s.heap.objs.size { cls:=.type "dict",data:=.dict #[] }) (t':=s.toks) (fun _ _ q=>Heap.get?_push_of_some _ q) (Nat.le_refl _) (pin_ok e),rfl,h _ _ (I.hok.fresh (Nat.le_refl _)) ⟨Nat.zero_le _,beq_eq_false_iff_ne.mpr (Ne.symm (Nat.ne_of_lt I.big)),[],#[],_,.nil,?_,rfl,rfl,.nil⟩⟩
  first | exact⟨rfl,rfl⟩ | (constructor <;> rfl) | (unfold Obj.ExactDict;simp)⟩
theorem DH.new {P:Program} {w:World} {κ:KH P w K} {H:Hp} {p:Addr} {o:Obj} (ob:ObH κ p [] o):DH κ (upd H p (pinO p o)) p []:=⟨⟨o,upd_same,ob⟩,fun x hx=>nomatch hx⟩
end
end L2
namespace L2
open PySem PySem.Spec PyProof.Rows
def ItH (d:Addr) (o:Obj) (ks:List Addr):It:=⟨fun i H=>i < ks.length/\H d=some (pinO d o),fun i H x H'=>H'=H/\∃ a,ks[i]?=some a/\x=.ref a,fun i H=>i=ks.length/\H d=some (pinO d o)⟩
def KeysAre (es:Array DictEntry) (ks:List Addr):Prop:=es.size=ks.length/\∀ (i:Nat) (e:DictEntry),es[i]?=some e->∃ a,ks[i]?=some a/\e.key=.ref a
theorem turn_keys {P:Program} {w:World} {F:PySem.W.Frag} {tg:Expr} {d it:Addr} {o:Obj} {es:Array DictEntry} {ep:Nat} {ks:List Addr} (ne:d ≠ it) (hx:o.ExactDict) (hd:o.data=.dict es ep) (hk:KeysAre es ks) :
    Turn P w F tg (ItH d o ks) [it] it (fun i h=>h.IsKeyIter it d i es.size ep) where
  mem:=by simp
  obj:=fun i h st b hb=>by
    have e:b=it:=by simpa using hb
    subst e
    obtain⟨o,e,c,d⟩:=st
    exact⟨o,e,fun v z=>by rw[d] at z;cases z⟩
  keep:=fun i h h' st k=>st.at fun o e=>k it (by simp) o e
  item:=by
    intro X hP hw hK hc i pins s σ H E I hf st hg
    subst hP hw hK
    obtain⟨f0,f1,f2,f3,f4,f5⟩:=hf it (by simp)
    have hlt:i < es.size:=by rw[hk.1];exact hg.1
    obtain⟨a,ha,hke⟩:=hk.2 i _ (Array.getElem?_eq_getElem hlt)
    refine raw_next st ⟨o,pin_at I.hok hg.2,hx,hd⟩ (Array.getElem?_eq_getElem hlt) fun h' st' sb=>?_
    have I1:Inv X pins σ H { s with heap:=h' }:=I.turned (t':=s.toks) (fun b o hb e=>(sb.2 b hb).trans e) f0 f1 f3 f4 f5
    obtain⟨oi,e1,c1,d1⟩:=id st'
    rw[hke]
    exact⟨_,rfl,go_of (s:={ s with heap:=h' }) e1 c1 d1 (by decide) ⟨.ref a,H,I1,rfl,⟨rfl,a,ha,rfl⟩,st',fun b hb=>(hf b hb).1⟩⟩
  done:=by
    intro X hP hw hK hc i pins s σ H E I hf st hg
    subst hP hw hK
    obtain⟨f0,f1,f2,f3,f4,f5⟩:=hf it (by simp)
    have e:i=es.size:=by rw[hk.1];exact hg.1
    subst e
    exact raw_end (I.ok.hd hc) st ⟨o,pin_at I.hok hg.2,hx,hd⟩ fun h' eb=>⟨rfl,I.turned (t':=s.toks) (fun b o hb e=>eb b o hb e) f0 f1 f3 f4 f5⟩
  self:=fun _ _ _ _ _ st h=>wpAny_pyIter_keyiter st h
section
variable {K:Type} [DecidableEq K]
theorem keys_are {P:Program} {w:World} {κ:KH P w K} {xs:List (K × Addr × V)} {us:List (K × Addr × Value)} {es:Array DictEntry} (r:VH xs us) (he:es.toList=us.map (entryOfKey κ.kind)):KeysAre es (xs.map (·.2.1)):=by
  have e1:es.size=xs.length:=by rw[Paired.length r,<- List.length_map (f:=entryOfKey κ.kind),<- he];simp
  refine⟨by rw[e1,List.length_map],fun i e h=>?_⟩
  have h2:es.toList[i]?=some e:=by rw[Array.getElem?_toList];exact h
  rw[he,List.getElem?_map] at h2
  clear he e1 h
  induction r generalizing i with
  | nil=>simp at h2
  | @cons p q ps qs hq t ih=>
    cases i with
    | zero=>
      rw[List.getElem?_cons_zero] at h2
      cases h2
      exact⟨p.2.1,rfl,by rw[hq.2.1];rfl⟩
    | succ i=>
      rw[List.getElem?_cons_succ] at h2
      rw[List.map_cons,List.getElem?_cons_succ]
      exact ih i h2
variable {X:Cx} {κ:KH X.prog X.w K} {tg:Expr}
def iKeysH {P:Program} {w:World} (κ:KH P w K) (te:TE):TI:=fun σ H R=>te σ H fun x H1=>∃ d xs,x=.ref d/\DH κ H1 d xs/\∀ o,H1 d=some (pinO d o)->R (ItH d o (xs.map (·.2.1))) H1
theorem qi_keysH {e:Expr} {te:TE} (he:QE X e te):QI X tg e (iKeysH κ te):=⟨fun pins s σ H R I h=>by
  refine thn (he.h pins s σ H _ I h) fun v s1 ⟨x,H1,I1,r1,d,xs,ex,dd,q⟩=>?_
  subst ex
  cases r1
  obtain⟨⟨o,e0,z,ns,us,es,ep,rel,hx,hd,h4,_⟩,_⟩:=dd
  have g:=pin_at I1.hok e0
  refine raw_iter ns ⟨o,g,hx,hd⟩ ?_
  refine⟨s1.heap.objs.size,[s1.heap.objs.size],_,_,H1,rfl,I1.kept (t':=s1.toks) fun b o e=>Heap.get?_push_of_some _ e,turn_keys (Nat.ne_of_lt (Heap.lt_size g)) hx hd (keys_are rel h4),⟨_,Heap.get?_push_size _ rfl,rfl,rfl⟩,fun b hb=>?_,q o e0⟩
  have e:b=s1.heap.objs.size:=by simpa using hb
  subst e
  exact I1.fpOk (Nat.le_refl _) (I1.hok.fresh (Nat.le_refl _))⟩
theorem for_keys {d:Addr} {o:Obj} {ks:List Addr} {g:TG} {tb:TS} {D:Ends} {σ:St} {H:Hp} (Pv:Nat->St->Hp->Prop) (h0:Pv 0 σ H) (hl:∀ i σ H,i <= ks.length->Pv i σ H->H d=some (pinO d o))
    (hs:∀ i a σ H,ks[i]?=some a->Pv i σ H->g (.ref a) σ H fun σ2 H2=>tb { D with nx:=Pv (i+1),ct:=Pv (i+1),bk:=D.nx } σ2 H2) (hd:∀ σ H,Pv ks.length σ H->D.nx σ H) :
    ∃ W:Nat->Nat->St->Hp->Prop,(∃ m,W 0 m σ H)/\∀ i m σ H,W i m σ H ->
      ((ItH d o ks).stop i H/\D.nx σ H)\/((ItH d o ks).go i H/\∃ N:St->Hp->Prop,(∀ σ' H',N σ' H'->∃ m',m' < m/\W (i+1) m' σ' H')/\∀ x H',(ItH d o ks).yld i H x H'->g x σ H' fun σ2 H2=>tb { D with nx:=N,ct:=N,bk:=D.nx } σ2 H2):=by
  refine⟨fun i m σ H=>m=ks.length - i/\i <= ks.length/\Pv i σ H,⟨_,rfl,Nat.zero_le _,h0⟩,?_⟩
  rintro i m σ H ⟨rfl,hi,p⟩
  have q:=hl i σ H hi p
  by_cases hlt:i < ks.length
  · refine .inr ⟨⟨hlt,q⟩,Pv (i+1),fun σ' H' p'=>⟨ks.length - (i+1),by omega,rfl,hlt,p'⟩,?_⟩
    rintro x H' ⟨rfl,a,ha,rfl⟩
    exact hs i a σ H' ha p
  · have e:i=ks.length:=by omega
    subst e
    exact .inl ⟨⟨rfl,q⟩,hd σ H p⟩
end
end L2
namespace K35
open PySem L2
set_option genInjectivity false
set_option genSizeOf false
theorem bd1 {K:PySem.W.Frag} {x qual:Str} {st:Stmt} {f:Addr} {fd:FuncData} {ps:List Str} (F:Fun K x qual st f fd) (hl:ps.length=1) (h:∀ (kV doc pm:Value) (an:Option Addr) (cdv ct:Value) (a:Value),bindArgs (PySem.W.fnOf x qual (defArgs st) (defBody st) (defScope st) .none kV doc pm an cdv ct) ⟨[a],[]⟩=pure (ps.zip [a])):Binds K fd ps []:=F.binds fun kV doc pm an cdv ct us e=>by
  rw[hl] at e
  match us,e with
  | [a],_=>exact h kV doc pm an cdv ct a
theorem bd2 {K:PySem.W.Frag} {x qual:Str} {st:Stmt} {f:Addr} {fd:FuncData} {ps:List Str} (F:Fun K x qual st f fd) (hl:ps.length=2) (h:∀ (kV doc pm:Value) (an:Option Addr) (cdv ct:Value) (a b:Value),bindArgs (PySem.W.fnOf x qual (defArgs st) (defBody st) (defScope st) .none kV doc pm an cdv ct) ⟨[a,b],[]⟩=pure (ps.zip [a,b])):Binds K fd ps []:=F.binds fun kV doc pm an cdv ct us e=>by
  rw[hl] at e
  match us,e with
  | [a,b],_=>exact h kV doc pm an cdv ct a b
theorem bd3 {K:PySem.W.Frag} {x qual:Str} {st:Stmt} {f:Addr} {fd:FuncData} {ps:List Str} (F:Fun K x qual st f fd) (hl:ps.length=3) (h:∀ (kV doc pm:Value) (an:Option Addr) (cdv ct:Value) (a b c:Value),bindArgs (PySem.W.fnOf x qual (defArgs st) (defBody st) (defScope st) .none kV doc pm an cdv ct) ⟨[a,b,c],[]⟩=pure (ps.zip [a,b,c])):Binds K fd ps []:=F.binds fun kV doc pm an cdv ct us e=>by
  rw[hl] at e
  match us,e with
  | [a,b,c],_=>exact h kV doc pm an cdv ct a b c
theorem bd4 {K:PySem.W.Frag} {x qual:Str} {st:Stmt} {f:Addr} {fd:FuncData} {ps:List Str} (F:Fun K x qual st f fd) (hl:ps.length=4) (h:∀ (kV doc pm:Value) (an:Option Addr) (cdv ct:Value) (a b c d:Value),bindArgs (PySem.W.fnOf x qual (defArgs st) (defBody st) (defScope st) .none kV doc pm an cdv ct) ⟨[a,b,c,d],[]⟩=pure (ps.zip [a,b,c,d])):Binds K fd ps []:=F.binds fun kV doc pm an cdv ct us e=>by
  rw[hl] at e
  match us,e with
  | [a,b,c,d],_=>exact h kV doc pm an cdv ct a b c d
theorem bd5 {K:PySem.W.Frag} {x qual:Str} {st:Stmt} {f:Addr} {fd:FuncData} {ps:List Str} (F:Fun K x qual st f fd) (hl:ps.length=5) (h:∀ (kV doc pm:Value) (an:Option Addr) (cdv ct:Value) (a b c d g:Value),bindArgs (PySem.W.fnOf x qual (defArgs st) (defBody st) (defScope st) .none kV doc pm an cdv ct) ⟨[a,b,c,d,g],[]⟩=pure (ps.zip [a,b,c,d,g])):Binds K fd ps []:=F.binds fun kV doc pm an cdv ct us e=>by
  rw[hl] at e
  match us,e with
  | [a,b,c,d,g],_=>exact h kV doc pm an cdv ct a b c d g
theorem bd6 {K:PySem.W.Frag} {x qual:Str} {st:Stmt} {f:Addr} {fd:FuncData} {ps:List Str} (F:Fun K x qual st f fd) (hl:ps.length=6) (h:∀ (kV doc pm:Value) (an:Option Addr) (cdv ct:Value) (a b c d g m:Value),bindArgs (PySem.W.fnOf x qual (defArgs st) (defBody st) (defScope st) .none kV doc pm an cdv ct) ⟨[a,b,c,d,g,m],[]⟩=pure (ps.zip [a,b,c,d,g,m])):Binds K fd ps []:=F.binds fun kV doc pm an cdv ct us e=>by
  rw[hl] at e
  match us,e with
  | [a,b,c,d,g,m],_=>exact h kV doc pm an cdv ct a b c d g m
noncomputable def top (i:Nat):Stmt:=PySem.Challenge.pw_leafsay_k35_grown.main.body.getD i (.Pass ⟨0,0,0,0⟩)
abbrev s_qcheckgrowth:Stmt:=top 15
abbrev s_qtreeby:Stmt:=top 16
abbrev s_qgrown:Stmt:=top 17
abbrev s_qwhole:Stmt:=top 19
abbrev s_qdeck:Stmt:=top 20
abbrev s_qword:Stmt:=top 21
abbrev s_qsigns:Stmt:=top 22
abbrev s_qterm:Stmt:=top 23
abbrev s_qvalues:Stmt:=top 24
abbrev s_qdue:Stmt:=top 25
abbrev s_qpool:Stmt:=top 26
abbrev s_qform:Stmt:=top 27
abbrev s_qnamed:Stmt:=top 28
abbrev s_qgraph:Stmt:=top 29
abbrev s_qhang:Stmt:=top 30
abbrev s_qhasring:Stmt:=top 31
abbrev s_qreach:Stmt:=top 32
abbrev s_qput:Stmt:=top 33
abbrev s_qdrawn:Stmt:=top 34
abbrev s_qwide:Stmt:=top 35
abbrev s_qstep:Stmt:=top 36
abbrev s_qtower:Stmt:=top 37
abbrev s_qistree:Stmt:=top 38
abbrev s_qtold:Stmt:=top 39
abbrev s_law:Stmt:=top 40
theorem sc_qcheckgrowth:FnScope ["rows", "number", "sizes", "depths", "row"] ["rows", "number"] (defScope s_qcheckgrowth):=⟨rfl,rfl,rfl,by decide +kernel,rfl,by decide +kernel,by decide +kernel⟩
theorem sc_qtreeby:FnScope ["rows", "number", "row"] ["rows", "number"] (defScope s_qtreeby):=⟨rfl,rfl,rfl,by decide +kernel,rfl,by decide +kernel,by decide +kernel⟩
theorem sc_qgrown:FnScope ["grammar", "rows", "number"] ["grammar", "rows", "number"] (defScope s_qgrown):=⟨rfl,rfl,rfl,by decide +kernel,rfl,by decide +kernel,by decide +kernel⟩
theorem sc_qwhole:FnScope ["_law_found"] ["_law_found"] (defScope s_qwhole):=⟨rfl,rfl,rfl,by decide +kernel,rfl,by decide +kernel,by decide +kernel⟩
theorem sc_qdeck:FnScope ["_law_cells", "_law_many", "_law_found", "_law_seed", "_law_cell"] ["_law_cells", "_law_many"] (defScope s_qdeck):=⟨rfl,rfl,rfl,by decide +kernel,rfl,by decide +kernel,by decide +kernel⟩
theorem sc_qword:FnScope ["_law_cell", "_law_k", "_law_letters", "_law_long", "_law_at", "_law_same"] ["_law_cell", "_law_k"] (defScope s_qword):=⟨rfl,rfl,rfl,by decide +kernel,rfl,by decide +kernel,by decide +kernel⟩
theorem sc_qsigns:FnScope ["_law_deck_here", "_law_many", "_law_word_here", "_law_kind", "_law_found", "_law_k", "_law_cell", "_law_own", "_law_downs", "_law_ups"] ["_law_deck_here", "_law_many"] (defScope s_qsigns):=⟨rfl,rfl,rfl,by decide +kernel,rfl,by decide +kernel,by decide +kernel⟩
theorem sc_qterm:FnScope ["_law_kind", "_law_some", "_law_cell", "_law_made", "_law_deed", "_law_k"] ["_law_kind", "_law_some", "_law_cell"] (defScope s_qterm):=⟨rfl,rfl,rfl,by decide +kernel,rfl,by decide +kernel,by decide +kernel⟩
theorem sc_qvalues:FnScope ["_law_signs_here", "_law_at", "_law_found", "_law_k", "_law_side", "_law_name", "_law_kind"] ["_law_signs_here", "_law_at"] (defScope s_qvalues):=⟨rfl,rfl,rfl,by decide +kernel,rfl,by decide +kernel,by decide +kernel⟩
theorem sc_qdue:FnScope ["_law_one"] ["_law_one"] (defScope s_qdue):=⟨rfl,rfl,rfl,by decide +kernel,rfl,by decide +kernel,by decide +kernel⟩
theorem sc_qpool:FnScope ["_law_some", "_law_one", "_law_mode", "_law_cell", "_law_seat"] ["_law_some", "_law_one", "_law_mode", "_law_cell"] (defScope s_qpool):=⟨rfl,rfl,rfl,by decide +kernel,rfl,by decide +kernel,by decide +kernel⟩
theorem sc_qform:FnScope ["_law_signs_here", "_law_name", "_law_at", "_law_mode", "_law_deck_here", "_law_some", "_law_rules", "_law_one", "_law_cell", "_law_pool_here", "_law_count", "_law_drawn_here"] ["_law_signs_here", "_law_name", "_law_at", "_law_mode", "_law_deck_here"] (defScope s_qform):=⟨rfl,rfl,rfl,by decide +kernel,rfl,by decide +kernel,by decide +kernel⟩
theorem sc_qnamed:FnScope ["_law_term_here", "_law_found", "_law_one"] ["_law_term_here"] (defScope s_qnamed):=⟨rfl,rfl,rfl,by decide +kernel,rfl,by decide +kernel,by decide +kernel⟩
theorem sc_qgraph:FnScope ["_law_grammar", "_law_form_here", "_law_reaches", "_law_graph_here", "_law_names", "_law_k", "_law_sign", "_law_name", "_law_kind", "_law_term_here", "_law_down", "_law_up"] ["_law_grammar", "_law_form_here", "_law_reaches"] (defScope s_qgraph):=⟨rfl,rfl,rfl,by decide +kernel,rfl,by decide +kernel,by decide +kernel⟩
theorem sc_qhang:FnScope ["_law_graph_here", "_law_found", "_law_one", "_law_seen", "_law_left", "_law_other"] ["_law_graph_here"] (defScope s_qhang):=⟨rfl,rfl,rfl,by decide +kernel,rfl,by decide +kernel,by decide +kernel⟩
theorem sc_qhasring:FnScope ["_law_hang_here", "_law_one"] ["_law_hang_here"] (defScope s_qhasring):=⟨rfl,rfl,rfl,by decide +kernel,rfl,by decide +kernel,by decide +kernel⟩
theorem sc_qreach:FnScope ["_law_grammar", "_law_form_here", "_law_hang_here", "_law_sign", "_law_found", "_law_down", "_law_kind", "_law_up", "_law_other"] ["_law_grammar", "_law_form_here", "_law_hang_here"] (defScope s_qreach):=⟨rfl,rfl,rfl,by decide +kernel,rfl,by decide +kernel,by decide +kernel⟩
theorem sc_qput:FnScope ["_law_grammar", "_law_rows", "_law_form_here", "_law_lower", "_law_hang_here", "_law_reach_here"] ["_law_grammar", "_law_rows", "_law_form_here", "_law_lower"] (defScope s_qput):=⟨rfl,rfl,rfl,by decide +kernel,rfl,by decide +kernel,by decide +kernel⟩
theorem sc_qdrawn:FnScope ["_law_cells", "_law_deck_here", "_law_cell", "_law_signs_here", "_law_word_here", "_law_shapes", "_law_k", "_law_shape", "_law_mode", "_law_forms", "_law_grammar", "_law_rows", "_law_form_here", "_law_lower", "_law_j", "_law_some"] ["_law_cells"] (defScope s_qdrawn):=⟨rfl,rfl,rfl,by decide +kernel,rfl,by decide +kernel,by decide +kernel⟩
theorem sc_qwide:FnScope ["_law_cells", "_law_way", "_law_word_here", "_law_sixty", "_law_more", "_law_signs_here", "_law_forms", "_law_rows", "_law_k", "_law_cell", "_law_lower"] ["_law_cells", "_law_way"] (defScope s_qwide):=⟨rfl,rfl,rfl,by decide +kernel,rfl,by decide +kernel,by decide +kernel⟩
theorem sc_qstep:FnScope ["_law_word_here", "_law_at", "_law_head", "_law_branch", "_law_turns", "_law_adds", "_law_rules", "_law_k", "_law_name"] ["_law_word_here", "_law_at", "_law_head", "_law_branch", "_law_turns", "_law_adds"] (defScope s_qstep):=⟨rfl,rfl,rfl,by decide +kernel,rfl,by decide +kernel,by decide +kernel⟩
theorem sc_qtower:FnScope ["_law_cells", "_law_word_here", "_law_a", "_law_b", "_law_u", "_law_v", "_law_own", "_law_signs_here", "_law_same", "_law_swap", "_law_turn", "_law_none", "_law_one", "_law_two", "_law_forms", "_law_grammar", "_law_rows", "_law_k"] ["_law_cells"] (defScope s_qtower):=⟨rfl,rfl,rfl,by decide +kernel,rfl,by decide +kernel,by decide +kernel⟩
theorem sc_qistree:FnScope ["_law_found", "_law_rows", "_law_number", "_law_row", "_law_branch", "_law_k"] ["_law_found", "_law_rows", "_law_number"] (defScope s_qistree):=⟨rfl,rfl,rfl,by decide +kernel,rfl,by decide +kernel,by decide +kernel⟩
theorem sc_qtold:FnScope ["_law_grammar", "_law_rows", "_law_number", "_law_found", "_law_refused", "_law_good", "e"] ["_law_grammar", "_law_rows", "_law_number"] (defScope s_qtold):=⟨rfl,rfl,rfl,by decide +kernel,rfl,by decide +kernel,by decide +kernel⟩
theorem sc_law:FnScope ["_law_script", "_law_cells", "_law_seed", "_law_grammar", "_law_rows", "_law_many", "_law_deep", "_law_row", "_law_number", "_law_handed", "_law_told_here"] ["_law_script"] (defScope s_law):=⟨rfl,rfl,rfl,by decide +kernel,rfl,by decide +kernel,by decide +kernel⟩
structure Adr where
  qcheckgrowth:Addr
  d_qcheckgrowth:FuncData
  qtreeby:Addr
  d_qtreeby:FuncData
  qgrown:Addr
  d_qgrown:FuncData
  qwhole:Addr
  d_qwhole:FuncData
  qdeck:Addr
  d_qdeck:FuncData
  qword:Addr
  d_qword:FuncData
  qsigns:Addr
  d_qsigns:FuncData
  qterm:Addr
  d_qterm:FuncData
  qvalues:Addr
  d_qvalues:FuncData
  qdue:Addr
  d_qdue:FuncData
  qpool:Addr
  d_qpool:FuncData
  qform:Addr
  d_qform:FuncData
  qnamed:Addr
  d_qnamed:FuncData
  qgraph:Addr
  d_qgraph:FuncData
  qhang:Addr
  d_qhang:FuncData
  qhasring:Addr
  d_qhasring:FuncData
  qreach:Addr
  d_qreach:FuncData
  qput:Addr
  d_qput:FuncData
  qdrawn:Addr
  d_qdrawn:FuncData
  qwide:Addr
  d_qwide:FuncData
  qstep:Addr
  d_qstep:FuncData
  qtower:Addr
  d_qtower:FuncData
  qistree:Addr
  d_qistree:FuncData
  qtold:Addr
  d_qtold:FuncData
  law:Addr
  d_law:FuncData
  t_MOST_NODES:Tok
  t_MOST_DEEP:Tok
  k_LeafError:Addr
  k_NoText:Addr
  k_TooGreat:Addr
  k_NoName:Addr
  k_NoRule:Addr
  k_NoKind:Addr
  k_NoTree:Addr
  k_NoPlace:Addr
  k_NoGiven:Addr
  k_NoWalk:Addr
  k_Ring:Addr
structure Tx (K:PySem.W.Frag) (mg:Str->Option Value) (T:Adr):Prop where
  F_qcheckgrowth:Fun K "check_growth" "check_growth" s_qcheckgrowth T.qcheckgrowth T.d_qcheckgrowth
  b_qcheckgrowth:Binds K T.d_qcheckgrowth ["rows", "number"] []
  m_qcheckgrowth:mg "check_growth" = some (.ref T.qcheckgrowth)
  F_qtreeby:Fun K "tree_by" "tree_by" s_qtreeby T.qtreeby T.d_qtreeby
  b_qtreeby:Binds K T.d_qtreeby ["rows", "number"] []
  m_qtreeby:mg "tree_by" = some (.ref T.qtreeby)
  F_qgrown:Fun K "grown" "grown" s_qgrown T.qgrown T.d_qgrown
  b_qgrown:Binds K T.d_qgrown ["grammar", "rows", "number"] []
  m_qgrown:mg "grown" = some (.ref T.qgrown)
  F_qwhole:Fun K "_law_whole" "_law_whole" s_qwhole T.qwhole T.d_qwhole
  b_qwhole:Binds K T.d_qwhole ["_law_found"] []
  m_qwhole:mg "_law_whole" = some (.ref T.qwhole)
  F_qdeck:Fun K "_law_deck" "_law_deck" s_qdeck T.qdeck T.d_qdeck
  b_qdeck:Binds K T.d_qdeck ["_law_cells", "_law_many"] []
  m_qdeck:mg "_law_deck" = some (.ref T.qdeck)
  F_qword:Fun K "_law_word" "_law_word" s_qword T.qword T.d_qword
  b_qword:Binds K T.d_qword ["_law_cell", "_law_k"] []
  m_qword:mg "_law_word" = some (.ref T.qword)
  F_qsigns:Fun K "_law_signs" "_law_signs" s_qsigns T.qsigns T.d_qsigns
  b_qsigns:Binds K T.d_qsigns ["_law_deck_here", "_law_many"] []
  m_qsigns:mg "_law_signs" = some (.ref T.qsigns)
  F_qterm:Fun K "_law_term" "_law_term" s_qterm T.qterm T.d_qterm
  b_qterm:Binds K T.d_qterm ["_law_kind", "_law_some", "_law_cell"] []
  m_qterm:mg "_law_term" = some (.ref T.qterm)
  F_qvalues:Fun K "_law_values" "_law_values" s_qvalues T.qvalues T.d_qvalues
  b_qvalues:Binds K T.d_qvalues ["_law_signs_here", "_law_at"] []
  m_qvalues:mg "_law_values" = some (.ref T.qvalues)
  F_qdue:Fun K "_law_due" "_law_due" s_qdue T.qdue T.d_qdue
  b_qdue:Binds K T.d_qdue ["_law_one"] []
  m_qdue:mg "_law_due" = some (.ref T.qdue)
  F_qpool:Fun K "_law_pool" "_law_pool" s_qpool T.qpool T.d_qpool
  b_qpool:Binds K T.d_qpool ["_law_some", "_law_one", "_law_mode", "_law_cell"] []
  m_qpool:mg "_law_pool" = some (.ref T.qpool)
  F_qform:Fun K "_law_form" "_law_form" s_qform T.qform T.d_qform
  b_qform:Binds K T.d_qform ["_law_signs_here", "_law_name", "_law_at", "_law_mode", "_law_deck_here"] []
  m_qform:mg "_law_form" = some (.ref T.qform)
  F_qnamed:Fun K "_law_named" "_law_named" s_qnamed T.qnamed T.d_qnamed
  b_qnamed:Binds K T.d_qnamed ["_law_term_here"] []
  m_qnamed:mg "_law_named" = some (.ref T.qnamed)
  F_qgraph:Fun K "_law_graph" "_law_graph" s_qgraph T.qgraph T.d_qgraph
  b_qgraph:Binds K T.d_qgraph ["_law_grammar", "_law_form_here", "_law_reaches"] []
  m_qgraph:mg "_law_graph" = some (.ref T.qgraph)
  F_qhang:Fun K "_law_hang" "_law_hang" s_qhang T.qhang T.d_qhang
  b_qhang:Binds K T.d_qhang ["_law_graph_here"] []
  m_qhang:mg "_law_hang" = some (.ref T.qhang)
  F_qhasring:Fun K "_law_has_ring" "_law_has_ring" s_qhasring T.qhasring T.d_qhasring
  b_qhasring:Binds K T.d_qhasring ["_law_hang_here"] []
  m_qhasring:mg "_law_has_ring" = some (.ref T.qhasring)
  F_qreach:Fun K "_law_reach" "_law_reach" s_qreach T.qreach T.d_qreach
  b_qreach:Binds K T.d_qreach ["_law_grammar", "_law_form_here", "_law_hang_here"] []
  m_qreach:mg "_law_reach" = some (.ref T.qreach)
  F_qput:Fun K "_law_put" "_law_put" s_qput T.qput T.d_qput
  b_qput:Binds K T.d_qput ["_law_grammar", "_law_rows", "_law_form_here", "_law_lower"] []
  m_qput:mg "_law_put" = some (.ref T.qput)
  F_qdrawn:Fun K "_law_drawn" "_law_drawn" s_qdrawn T.qdrawn T.d_qdrawn
  b_qdrawn:Binds K T.d_qdrawn ["_law_cells"] []
  m_qdrawn:mg "_law_drawn" = some (.ref T.qdrawn)
  F_qwide:Fun K "_law_wide" "_law_wide" s_qwide T.qwide T.d_qwide
  b_qwide:Binds K T.d_qwide ["_law_cells", "_law_way"] []
  m_qwide:mg "_law_wide" = some (.ref T.qwide)
  F_qstep:Fun K "_law_step" "_law_step" s_qstep T.qstep T.d_qstep
  b_qstep:Binds K T.d_qstep ["_law_word_here", "_law_at", "_law_head", "_law_branch", "_law_turns", "_law_adds"] []
  m_qstep:mg "_law_step" = some (.ref T.qstep)
  F_qtower:Fun K "_law_tower" "_law_tower" s_qtower T.qtower T.d_qtower
  b_qtower:Binds K T.d_qtower ["_law_cells"] []
  m_qtower:mg "_law_tower" = some (.ref T.qtower)
  F_qistree:Fun K "_law_is_tree" "_law_is_tree" s_qistree T.qistree T.d_qistree
  b_qistree:Binds K T.d_qistree ["_law_found", "_law_rows", "_law_number"] []
  m_qistree:mg "_law_is_tree" = some (.ref T.qistree)
  F_qtold:Fun K "_law_told" "_law_told" s_qtold T.qtold T.d_qtold
  b_qtold:Binds K T.d_qtold ["_law_grammar", "_law_rows", "_law_number"] []
  m_qtold:mg "_law_told" = some (.ref T.qtold)
  F_law:Fun K "law" "law" s_law T.law T.d_law
  b_law:Binds K T.d_law ["_law_script"] []
  m_law:mg "law" = some (.ref T.law)
  z_ValueError:mg "ValueError" = none
  z_bool:mg "bool" = none
  z_int:mg "int" = none
  z_isinstance:mg "isinstance" = none
  z_len:mg "len" = none
  z_list:mg "list" = none
  z_max:mg "max" = none
  z_min:mg "min" = none
  z_range:mg "range" = none
  z_reversed:mg "reversed" = none
  z_str:mg "str" = none
  z_sum:mg "sum" = none
  z_tuple:mg "tuple" = none
  z_zip:mg "zip" = none
  c_MOST_NODES:mg "MOST_NODES" = some (.int 60 T.t_MOST_NODES)
  c_MOST_DEEP:mg "MOST_DEEP" = some (.int 20 T.t_MOST_DEEP)
  m_LeafError:mg "LeafError" = some (.ref T.k_LeafError)
  m_NoText:mg "NoText" = some (.ref T.k_NoText)
  m_TooGreat:mg "TooGreat" = some (.ref T.k_TooGreat)
  e_TooGreat:ExcC K T.k_TooGreat
  x_TooGreat:XCls K T.k_TooGreat
  u_TooGreat_TooGreat:PySem.W.mroIn K T.k_TooGreat (.ref T.k_TooGreat)=some true
  i_TooGreat_0:PySem.W.kitAny K (.ref T.k_TooGreat) [.ref T.k_NoText,.ref T.k_NoName,.ref T.k_NoRule,.ref T.k_NoKind,.ref T.k_NoTree,.ref T.k_NoPlace,.ref T.k_NoGiven,.ref T.k_NoWalk,.ref T.k_Ring]=some false
  i_TooGreat_1:PySem.W.kitOne K (.ref T.k_TooGreat) (.ref T.k_LeafError)=some true
  i_TooGreat_2:PySem.W.kitOne K (.ref T.k_TooGreat) (.type "ValueError")=some true
  m_NoName:mg "NoName" = some (.ref T.k_NoName)
  m_NoRule:mg "NoRule" = some (.ref T.k_NoRule)
  m_NoKind:mg "NoKind" = some (.ref T.k_NoKind)
  m_NoTree:mg "NoTree" = some (.ref T.k_NoTree)
  m_NoPlace:mg "NoPlace" = some (.ref T.k_NoPlace)
  m_NoGiven:mg "NoGiven" = some (.ref T.k_NoGiven)
  m_NoWalk:mg "NoWalk" = some (.ref T.k_NoWalk)
  m_Ring:mg "Ring" = some (.ref T.k_Ring)
theorem tx_mk {K:PySem.W.Frag} {h:Heap} {mg:Str->Option Value} (X:K.In h) (G:h.Ns mainGlobals mg) {f0 f1 f2 f3 f4 f5 f6 f7 f8 f9 f10 f11 f12 f13 f14 f15 f16 f17 f18 f19 f20 f21 f22 f23 f24:Addr} {od0 an0 od1 an1 od2 an2 od3 an3 od4 an4 od5 an5 od6 an6 od7 an7 od8 an8 od9 an9 od10 an10 od11 an11 od12 an12 od13 an13 od14 an14 od15 an15 od16 an16 od17 an17 od18 an18 od19 an19 od20 an20 od21 an21 od22 an22 od23 an23 od24 an24:Option Addr} {sl0 sl1 sl2 sl3 sl4 sl5 sl6 sl7 sl8 sl9 sl10 sl11 sl12 sl13 sl14 sl15 sl16 sl17 sl18 sl19 sl20 sl21 sl22 sl23 sl24:Array (Option Value)}
    {oc0 kV0 dc0 pm0 cd0 ct0 oc1 kV1 dc1 pm1 cd1 ct1 oc2 kV2 dc2 pm2 cd2 ct2 oc3 kV3 dc3 pm3 cd3 ct3 oc4 kV4 dc4 pm4 cd4 ct4 oc5 kV5 dc5 pm5 cd5 ct5 oc6 kV6 dc6 pm6 cd6 ct6 oc7 kV7 dc7 pm7 cd7 ct7 oc8 kV8 dc8 pm8 cd8 ct8 oc9 kV9 dc9 pm9 cd9 ct9 oc10 kV10 dc10 pm10 cd10 ct10 oc11 kV11 dc11 pm11 cd11 ct11 oc12 kV12 dc12 pm12 cd12 ct12 oc13 kV13 dc13 pm13 cd13 ct13 oc14 kV14 dc14 pm14 cd14 ct14 oc15 kV15 dc15 pm15 cd15 ct15 oc16 kV16 dc16 pm16 cd16 ct16 oc17 kV17 dc17 pm17 cd17 ct17 oc18 kV18 dc18 pm18 cd18 ct18 oc19 kV19 dc19 pm19 cd19 ct19 oc20 kV20 dc20 pm20 cd20 ct20 oc21 kV21 dc21 pm21 cd21 ct21 oc22 kV22 dc22 pm22 cd22 ct22 oc23 kV23 dc23 pm23 cd23 ct23 oc24 kV24 dc24 pm24 cd24 ct24:Value} {t_MOST_NODES t_MOST_DEEP:Tok}
    {k_LeafError k_NoText k_TooGreat k_NoName k_NoRule k_NoKind k_NoTree k_NoPlace k_NoGiven k_NoWalk k_Ring:Addr}
    (m_LeafError:PySem.W.nsIn K mainGlobals "LeafError" = some (some (.ref k_LeafError)))
    (m_NoText:PySem.W.nsIn K mainGlobals "NoText" = some (some (.ref k_NoText)))
    (m_TooGreat:PySem.W.nsIn K mainGlobals "TooGreat" = some (some (.ref k_TooGreat)))
    (m_NoName:PySem.W.nsIn K mainGlobals "NoName" = some (some (.ref k_NoName)))
    (m_NoRule:PySem.W.nsIn K mainGlobals "NoRule" = some (some (.ref k_NoRule)))
    (m_NoKind:PySem.W.nsIn K mainGlobals "NoKind" = some (some (.ref k_NoKind)))
    (m_NoTree:PySem.W.nsIn K mainGlobals "NoTree" = some (some (.ref k_NoTree)))
    (m_NoPlace:PySem.W.nsIn K mainGlobals "NoPlace" = some (some (.ref k_NoPlace)))
    (m_NoGiven:PySem.W.nsIn K mainGlobals "NoGiven" = some (some (.ref k_NoGiven)))
    (m_NoWalk:PySem.W.nsIn K mainGlobals "NoWalk" = some (some (.ref k_NoWalk)))
    (m_Ring:PySem.W.nsIn K mainGlobals "Ring" = some (some (.ref k_Ring)))
    (a0:PySem.W.nsIn K mainGlobals "check_growth" = some (some (.ref f0))) (l0:K.lookup f0=some ⟨oc0,od0,.func (PySem.W.fnOf "check_growth" "check_growth" (defArgs s_qcheckgrowth) (defBody s_qcheckgrowth) (defScope s_qcheckgrowth) .none kV0 dc0 pm0 an0 cd0 ct0),sl0⟩) (c0:PySem.W.codeIn K cd0 "check_growth" = true) (k0:PySem.W.keepIn K (.ref f0)=true)
    (a1:PySem.W.nsIn K mainGlobals "tree_by" = some (some (.ref f1))) (l1:K.lookup f1=some ⟨oc1,od1,.func (PySem.W.fnOf "tree_by" "tree_by" (defArgs s_qtreeby) (defBody s_qtreeby) (defScope s_qtreeby) .none kV1 dc1 pm1 an1 cd1 ct1),sl1⟩) (c1:PySem.W.codeIn K cd1 "tree_by" = true) (k1:PySem.W.keepIn K (.ref f1)=true)
    (a2:PySem.W.nsIn K mainGlobals "grown" = some (some (.ref f2))) (l2:K.lookup f2=some ⟨oc2,od2,.func (PySem.W.fnOf "grown" "grown" (defArgs s_qgrown) (defBody s_qgrown) (defScope s_qgrown) .none kV2 dc2 pm2 an2 cd2 ct2),sl2⟩) (c2:PySem.W.codeIn K cd2 "grown" = true) (k2:PySem.W.keepIn K (.ref f2)=true)
    (a3:PySem.W.nsIn K mainGlobals "_law_whole" = some (some (.ref f3))) (l3:K.lookup f3=some ⟨oc3,od3,.func (PySem.W.fnOf "_law_whole" "_law_whole" (defArgs s_qwhole) (defBody s_qwhole) (defScope s_qwhole) .none kV3 dc3 pm3 an3 cd3 ct3),sl3⟩) (c3:PySem.W.codeIn K cd3 "_law_whole" = true) (k3:PySem.W.keepIn K (.ref f3)=true)
    (a4:PySem.W.nsIn K mainGlobals "_law_deck" = some (some (.ref f4))) (l4:K.lookup f4=some ⟨oc4,od4,.func (PySem.W.fnOf "_law_deck" "_law_deck" (defArgs s_qdeck) (defBody s_qdeck) (defScope s_qdeck) .none kV4 dc4 pm4 an4 cd4 ct4),sl4⟩) (c4:PySem.W.codeIn K cd4 "_law_deck" = true) (k4:PySem.W.keepIn K (.ref f4)=true)
    (a5:PySem.W.nsIn K mainGlobals "_law_word" = some (some (.ref f5))) (l5:K.lookup f5=some ⟨oc5,od5,.func (PySem.W.fnOf "_law_word" "_law_word" (defArgs s_qword) (defBody s_qword) (defScope s_qword) .none kV5 dc5 pm5 an5 cd5 ct5),sl5⟩) (c5:PySem.W.codeIn K cd5 "_law_word" = true) (k5:PySem.W.keepIn K (.ref f5)=true)
    (a6:PySem.W.nsIn K mainGlobals "_law_signs" = some (some (.ref f6))) (l6:K.lookup f6=some ⟨oc6,od6,.func (PySem.W.fnOf "_law_signs" "_law_signs" (defArgs s_qsigns) (defBody s_qsigns) (defScope s_qsigns) .none kV6 dc6 pm6 an6 cd6 ct6),sl6⟩) (c6:PySem.W.codeIn K cd6 "_law_signs" = true) (k6:PySem.W.keepIn K (.ref f6)=true)
    (a7:PySem.W.nsIn K mainGlobals "_law_term" = some (some (.ref f7))) (l7:K.lookup f7=some ⟨oc7,od7,.func (PySem.W.fnOf "_law_term" "_law_term" (defArgs s_qterm) (defBody s_qterm) (defScope s_qterm) .none kV7 dc7 pm7 an7 cd7 ct7),sl7⟩) (c7:PySem.W.codeIn K cd7 "_law_term" = true) (k7:PySem.W.keepIn K (.ref f7)=true)
    (a8:PySem.W.nsIn K mainGlobals "_law_values" = some (some (.ref f8))) (l8:K.lookup f8=some ⟨oc8,od8,.func (PySem.W.fnOf "_law_values" "_law_values" (defArgs s_qvalues) (defBody s_qvalues) (defScope s_qvalues) .none kV8 dc8 pm8 an8 cd8 ct8),sl8⟩) (c8:PySem.W.codeIn K cd8 "_law_values" = true) (k8:PySem.W.keepIn K (.ref f8)=true)
    (a9:PySem.W.nsIn K mainGlobals "_law_due" = some (some (.ref f9))) (l9:K.lookup f9=some ⟨oc9,od9,.func (PySem.W.fnOf "_law_due" "_law_due" (defArgs s_qdue) (defBody s_qdue) (defScope s_qdue) .none kV9 dc9 pm9 an9 cd9 ct9),sl9⟩) (c9:PySem.W.codeIn K cd9 "_law_due" = true) (k9:PySem.W.keepIn K (.ref f9)=true)
    (a10:PySem.W.nsIn K mainGlobals "_law_pool" = some (some (.ref f10))) (l10:K.lookup f10=some ⟨oc10,od10,.func (PySem.W.fnOf "_law_pool" "_law_pool" (defArgs s_qpool) (defBody s_qpool) (defScope s_qpool) .none kV10 dc10 pm10 an10 cd10 ct10),sl10⟩) (c10:PySem.W.codeIn K cd10 "_law_pool" = true) (k10:PySem.W.keepIn K (.ref f10)=true)
    (a11:PySem.W.nsIn K mainGlobals "_law_form" = some (some (.ref f11))) (l11:K.lookup f11=some ⟨oc11,od11,.func (PySem.W.fnOf "_law_form" "_law_form" (defArgs s_qform) (defBody s_qform) (defScope s_qform) .none kV11 dc11 pm11 an11 cd11 ct11),sl11⟩) (c11:PySem.W.codeIn K cd11 "_law_form" = true) (k11:PySem.W.keepIn K (.ref f11)=true)
    (a12:PySem.W.nsIn K mainGlobals "_law_named" = some (some (.ref f12))) (l12:K.lookup f12=some ⟨oc12,od12,.func (PySem.W.fnOf "_law_named" "_law_named" (defArgs s_qnamed) (defBody s_qnamed) (defScope s_qnamed) .none kV12 dc12 pm12 an12 cd12 ct12),sl12⟩) (c12:PySem.W.codeIn K cd12 "_law_named" = true) (k12:PySem.W.keepIn K (.ref f12)=true)
    (a13:PySem.W.nsIn K mainGlobals "_law_graph" = some (some (.ref f13))) (l13:K.lookup f13=some ⟨oc13,od13,.func (PySem.W.fnOf "_law_graph" "_law_graph" (defArgs s_qgraph) (defBody s_qgraph) (defScope s_qgraph) .none kV13 dc13 pm13 an13 cd13 ct13),sl13⟩) (c13:PySem.W.codeIn K cd13 "_law_graph" = true) (k13:PySem.W.keepIn K (.ref f13)=true)
    (a14:PySem.W.nsIn K mainGlobals "_law_hang" = some (some (.ref f14))) (l14:K.lookup f14=some ⟨oc14,od14,.func (PySem.W.fnOf "_law_hang" "_law_hang" (defArgs s_qhang) (defBody s_qhang) (defScope s_qhang) .none kV14 dc14 pm14 an14 cd14 ct14),sl14⟩) (c14:PySem.W.codeIn K cd14 "_law_hang" = true) (k14:PySem.W.keepIn K (.ref f14)=true)
    (a15:PySem.W.nsIn K mainGlobals "_law_has_ring" = some (some (.ref f15))) (l15:K.lookup f15=some ⟨oc15,od15,.func (PySem.W.fnOf "_law_has_ring" "_law_has_ring" (defArgs s_qhasring) (defBody s_qhasring) (defScope s_qhasring) .none kV15 dc15 pm15 an15 cd15 ct15),sl15⟩) (c15:PySem.W.codeIn K cd15 "_law_has_ring" = true) (k15:PySem.W.keepIn K (.ref f15)=true)
    (a16:PySem.W.nsIn K mainGlobals "_law_reach" = some (some (.ref f16))) (l16:K.lookup f16=some ⟨oc16,od16,.func (PySem.W.fnOf "_law_reach" "_law_reach" (defArgs s_qreach) (defBody s_qreach) (defScope s_qreach) .none kV16 dc16 pm16 an16 cd16 ct16),sl16⟩) (c16:PySem.W.codeIn K cd16 "_law_reach" = true) (k16:PySem.W.keepIn K (.ref f16)=true)
    (a17:PySem.W.nsIn K mainGlobals "_law_put" = some (some (.ref f17))) (l17:K.lookup f17=some ⟨oc17,od17,.func (PySem.W.fnOf "_law_put" "_law_put" (defArgs s_qput) (defBody s_qput) (defScope s_qput) .none kV17 dc17 pm17 an17 cd17 ct17),sl17⟩) (c17:PySem.W.codeIn K cd17 "_law_put" = true) (k17:PySem.W.keepIn K (.ref f17)=true)
    (a18:PySem.W.nsIn K mainGlobals "_law_drawn" = some (some (.ref f18))) (l18:K.lookup f18=some ⟨oc18,od18,.func (PySem.W.fnOf "_law_drawn" "_law_drawn" (defArgs s_qdrawn) (defBody s_qdrawn) (defScope s_qdrawn) .none kV18 dc18 pm18 an18 cd18 ct18),sl18⟩) (c18:PySem.W.codeIn K cd18 "_law_drawn" = true) (k18:PySem.W.keepIn K (.ref f18)=true)
    (a19:PySem.W.nsIn K mainGlobals "_law_wide" = some (some (.ref f19))) (l19:K.lookup f19=some ⟨oc19,od19,.func (PySem.W.fnOf "_law_wide" "_law_wide" (defArgs s_qwide) (defBody s_qwide) (defScope s_qwide) .none kV19 dc19 pm19 an19 cd19 ct19),sl19⟩) (c19:PySem.W.codeIn K cd19 "_law_wide" = true) (k19:PySem.W.keepIn K (.ref f19)=true)
    (a20:PySem.W.nsIn K mainGlobals "_law_step" = some (some (.ref f20))) (l20:K.lookup f20=some ⟨oc20,od20,.func (PySem.W.fnOf "_law_step" "_law_step" (defArgs s_qstep) (defBody s_qstep) (defScope s_qstep) .none kV20 dc20 pm20 an20 cd20 ct20),sl20⟩) (c20:PySem.W.codeIn K cd20 "_law_step" = true) (k20:PySem.W.keepIn K (.ref f20)=true)
    (a21:PySem.W.nsIn K mainGlobals "_law_tower" = some (some (.ref f21))) (l21:K.lookup f21=some ⟨oc21,od21,.func (PySem.W.fnOf "_law_tower" "_law_tower" (defArgs s_qtower) (defBody s_qtower) (defScope s_qtower) .none kV21 dc21 pm21 an21 cd21 ct21),sl21⟩) (c21:PySem.W.codeIn K cd21 "_law_tower" = true) (k21:PySem.W.keepIn K (.ref f21)=true)
    (a22:PySem.W.nsIn K mainGlobals "_law_is_tree" = some (some (.ref f22))) (l22:K.lookup f22=some ⟨oc22,od22,.func (PySem.W.fnOf "_law_is_tree" "_law_is_tree" (defArgs s_qistree) (defBody s_qistree) (defScope s_qistree) .none kV22 dc22 pm22 an22 cd22 ct22),sl22⟩) (c22:PySem.W.codeIn K cd22 "_law_is_tree" = true) (k22:PySem.W.keepIn K (.ref f22)=true)
    (a23:PySem.W.nsIn K mainGlobals "_law_told" = some (some (.ref f23))) (l23:K.lookup f23=some ⟨oc23,od23,.func (PySem.W.fnOf "_law_told" "_law_told" (defArgs s_qtold) (defBody s_qtold) (defScope s_qtold) .none kV23 dc23 pm23 an23 cd23 ct23),sl23⟩) (c23:PySem.W.codeIn K cd23 "_law_told" = true) (k23:PySem.W.keepIn K (.ref f23)=true)
    (a24:PySem.W.nsIn K mainGlobals "law" = some (some (.ref f24))) (l24:K.lookup f24=some ⟨oc24,od24,.func (PySem.W.fnOf "law" "law" (defArgs s_law) (defBody s_law) (defScope s_law) .none kV24 dc24 pm24 an24 cd24 ct24),sl24⟩) (c24:PySem.W.codeIn K cd24 "law" = true) (k24:PySem.W.keepIn K (.ref f24)=true)
    (z_ValueError:PySem.W.nsIn K mainGlobals "ValueError" = some none)
    (z_bool:PySem.W.nsIn K mainGlobals "bool" = some none)
    (z_int:PySem.W.nsIn K mainGlobals "int" = some none)
    (z_isinstance:PySem.W.nsIn K mainGlobals "isinstance" = some none)
    (z_len:PySem.W.nsIn K mainGlobals "len" = some none)
    (z_list:PySem.W.nsIn K mainGlobals "list" = some none)
    (z_max:PySem.W.nsIn K mainGlobals "max" = some none)
    (z_min:PySem.W.nsIn K mainGlobals "min" = some none)
    (z_range:PySem.W.nsIn K mainGlobals "range" = some none)
    (z_reversed:PySem.W.nsIn K mainGlobals "reversed" = some none)
    (z_str:PySem.W.nsIn K mainGlobals "str" = some none)
    (z_sum:PySem.W.nsIn K mainGlobals "sum" = some none)
    (z_tuple:PySem.W.nsIn K mainGlobals "tuple" = some none)
    (z_zip:PySem.W.nsIn K mainGlobals "zip" = some none)
    (c_MOST_NODES:PySem.W.nsIn K mainGlobals "MOST_NODES" = some (some (.int 60 t_MOST_NODES)))
    (c_MOST_DEEP:PySem.W.nsIn K mainGlobals "MOST_DEEP" = some (some (.int 20 t_MOST_DEEP)))
    (e_TooGreat:PySem.W.excIn K k_TooGreat vbm "ValueError.__new__" = true)
    (xga_TooGreat:PySem.W.findIn K (.ref k_TooGreat) "__getattribute__" = some (some (.builtin "BaseException.__getattribute__")))
    (xgt_TooGreat:PySem.W.findIn K (.ref k_TooGreat) "__getattr__" = some none)
    (xca_TooGreat:PySem.W.findIn K (.ref k_TooGreat) "__class__" = some (some (.builtin "object.__class__")))
    (xsp_TooGreat:PySem.W.specialIn K (.builtin "object.__class__") "__get__" = some (some (.builtin "getset_descriptor.__get__")))
    (xtk_TooGreat:PySem.W.takesIn K (.builtin "object.__class__")=some true)
    (xmo_TooGreat:PySem.W.mroIn K k_TooGreat (.type "object")=some true)
    (xmb_TooGreat:PySem.W.mroIn K k_TooGreat (.type "BaseException")=some true)
    (u_TooGreat_TooGreat:PySem.W.mroIn K k_TooGreat (.ref k_TooGreat)=some true)
    (i_TooGreat_0:PySem.W.kitAny K (.ref k_TooGreat) [.ref k_NoText,.ref k_NoName,.ref k_NoRule,.ref k_NoKind,.ref k_NoTree,.ref k_NoPlace,.ref k_NoGiven,.ref k_NoWalk,.ref k_Ring]=some false)
    (i_TooGreat_1:PySem.W.kitOne K (.ref k_TooGreat) (.ref k_LeafError)=some true)
    (i_TooGreat_2:PySem.W.kitOne K (.ref k_TooGreat) (.type "ValueError")=some true)
    : ∃ T:Adr,Tx K mg T:=by
  have F0:=fun_mk (st:=s_qcheckgrowth) l0 c0 k0
  have F1:=fun_mk (st:=s_qtreeby) l1 c1 k1
  have F2:=fun_mk (st:=s_qgrown) l2 c2 k2
  have F3:=fun_mk (st:=s_qwhole) l3 c3 k3
  have F4:=fun_mk (st:=s_qdeck) l4 c4 k4
  have F5:=fun_mk (st:=s_qword) l5 c5 k5
  have F6:=fun_mk (st:=s_qsigns) l6 c6 k6
  have F7:=fun_mk (st:=s_qterm) l7 c7 k7
  have F8:=fun_mk (st:=s_qvalues) l8 c8 k8
  have F9:=fun_mk (st:=s_qdue) l9 c9 k9
  have F10:=fun_mk (st:=s_qpool) l10 c10 k10
  have F11:=fun_mk (st:=s_qform) l11 c11 k11
  have F12:=fun_mk (st:=s_qnamed) l12 c12 k12
  have F13:=fun_mk (st:=s_qgraph) l13 c13 k13
  have F14:=fun_mk (st:=s_qhang) l14 c14 k14
  have F15:=fun_mk (st:=s_qhasring) l15 c15 k15
  have F16:=fun_mk (st:=s_qreach) l16 c16 k16
  have F17:=fun_mk (st:=s_qput) l17 c17 k17
  have F18:=fun_mk (st:=s_qdrawn) l18 c18 k18
  have F19:=fun_mk (st:=s_qwide) l19 c19 k19
  have F20:=fun_mk (st:=s_qstep) l20 c20 k20
  have F21:=fun_mk (st:=s_qtower) l21 c21 k21
  have F22:=fun_mk (st:=s_qistree) l22 c22 k22
  have F23:=fun_mk (st:=s_qtold) l23 c23 k23
  have F24:=fun_mk (st:=s_law) l24 c24 k24
  exact⟨⟨f0,_,f1,_,f2,_,f3,_,f4,_,f5,_,f6,_,f7,_,f8,_,f9,_,f10,_,f11,_,f12,_,f13,_,f14,_,f15,_,f16,_,f17,_,f18,_,f19,_,f20,_,f21,_,f22,_,f23,_,f24,_,t_MOST_NODES,t_MOST_DEEP,k_LeafError,k_NoText,k_TooGreat,k_NoName,k_NoRule,k_NoKind,k_NoTree,k_NoPlace,k_NoGiven,k_NoWalk,k_Ring⟩,⟨F0,bd2 (ps:=["rows", "number"]) F0 rfl (fun _ _ _ _ _ _ _ _=>rfl),PySem.W.mg_of X G a0,F1,bd2 (ps:=["rows", "number"]) F1 rfl (fun _ _ _ _ _ _ _ _=>rfl),PySem.W.mg_of X G a1,F2,bd3 (ps:=["grammar", "rows", "number"]) F2 rfl (fun _ _ _ _ _ _ _ _ _=>rfl),PySem.W.mg_of X G a2,F3,bd1 (ps:=["_law_found"]) F3 rfl (fun _ _ _ _ _ _ _=>rfl),PySem.W.mg_of X G a3,F4,bd2 (ps:=["_law_cells", "_law_many"]) F4 rfl (fun _ _ _ _ _ _ _ _=>rfl),PySem.W.mg_of X G a4,F5,bd2 (ps:=["_law_cell", "_law_k"]) F5 rfl (fun _ _ _ _ _ _ _ _=>rfl),PySem.W.mg_of X G a5,F6,bd2 (ps:=["_law_deck_here", "_law_many"]) F6 rfl (fun _ _ _ _ _ _ _ _=>rfl),PySem.W.mg_of X G a6,F7,bd3 (ps:=["_law_kind", "_law_some", "_law_cell"]) F7 rfl (fun _ _ _ _ _ _ _ _ _=>rfl),PySem.W.mg_of X G a7,F8,bd2 (ps:=["_law_signs_here", "_law_at"]) F8 rfl (fun _ _ _ _ _ _ _ _=>rfl),PySem.W.mg_of X G a8,F9,bd1 (ps:=["_law_one"]) F9 rfl (fun _ _ _ _ _ _ _=>rfl),PySem.W.mg_of X G a9,F10,bd4 (ps:=["_law_some", "_law_one", "_law_mode", "_law_cell"]) F10 rfl (fun _ _ _ _ _ _ _ _ _ _=>rfl),PySem.W.mg_of X G a10,F11,bd5 (ps:=["_law_signs_here", "_law_name", "_law_at", "_law_mode", "_law_deck_here"]) F11 rfl (fun _ _ _ _ _ _ _ _ _ _ _=>rfl),PySem.W.mg_of X G a11,F12,bd1 (ps:=["_law_term_here"]) F12 rfl (fun _ _ _ _ _ _ _=>rfl),PySem.W.mg_of X G a12,F13,bd3 (ps:=["_law_grammar", "_law_form_here", "_law_reaches"]) F13 rfl (fun _ _ _ _ _ _ _ _ _=>rfl),PySem.W.mg_of X G a13,F14,bd1 (ps:=["_law_graph_here"]) F14 rfl (fun _ _ _ _ _ _ _=>rfl),PySem.W.mg_of X G a14,F15,bd1 (ps:=["_law_hang_here"]) F15 rfl (fun _ _ _ _ _ _ _=>rfl),PySem.W.mg_of X G a15,F16,bd3 (ps:=["_law_grammar", "_law_form_here", "_law_hang_here"]) F16 rfl (fun _ _ _ _ _ _ _ _ _=>rfl),PySem.W.mg_of X G a16,F17,bd4 (ps:=["_law_grammar", "_law_rows", "_law_form_here", "_law_lower"]) F17 rfl (fun _ _ _ _ _ _ _ _ _ _=>rfl),PySem.W.mg_of X G a17,F18,bd1 (ps:=["_law_cells"]) F18 rfl (fun _ _ _ _ _ _ _=>rfl),PySem.W.mg_of X G a18,F19,bd2 (ps:=["_law_cells", "_law_way"]) F19 rfl (fun _ _ _ _ _ _ _ _=>rfl),PySem.W.mg_of X G a19,F20,bd6 (ps:=["_law_word_here", "_law_at", "_law_head", "_law_branch", "_law_turns", "_law_adds"]) F20 rfl (fun _ _ _ _ _ _ _ _ _ _ _ _=>rfl),PySem.W.mg_of X G a20,F21,bd1 (ps:=["_law_cells"]) F21 rfl (fun _ _ _ _ _ _ _=>rfl),PySem.W.mg_of X G a21,F22,bd3 (ps:=["_law_found", "_law_rows", "_law_number"]) F22 rfl (fun _ _ _ _ _ _ _ _ _=>rfl),PySem.W.mg_of X G a22,F23,bd3 (ps:=["_law_grammar", "_law_rows", "_law_number"]) F23 rfl (fun _ _ _ _ _ _ _ _ _=>rfl),PySem.W.mg_of X G a23,F24,bd1 (ps:=["_law_script"]) F24 rfl (fun _ _ _ _ _ _ _=>rfl),PySem.W.mg_of X G a24,PySem.W.mg_none_of X G z_ValueError,PySem.W.mg_none_of X G z_bool,PySem.W.mg_none_of X G z_int,PySem.W.mg_none_of X G z_isinstance,PySem.W.mg_none_of X G z_len,PySem.W.mg_none_of X G z_list,PySem.W.mg_none_of X G z_max,PySem.W.mg_none_of X G z_min,PySem.W.mg_none_of X G z_range,PySem.W.mg_none_of X G z_reversed,PySem.W.mg_none_of X G z_str,PySem.W.mg_none_of X G z_sum,PySem.W.mg_none_of X G z_tuple,PySem.W.mg_none_of X G z_zip,PySem.W.mg_of X G c_MOST_NODES,PySem.W.mg_of X G c_MOST_DEEP,PySem.W.mg_of X G m_LeafError,PySem.W.mg_of X G m_NoText,PySem.W.mg_of X G m_TooGreat,e_TooGreat,⟨e_TooGreat,xga_TooGreat,xgt_TooGreat,xca_TooGreat,xsp_TooGreat,xtk_TooGreat,xmo_TooGreat,xmb_TooGreat⟩,u_TooGreat_TooGreat,i_TooGreat_0,i_TooGreat_1,i_TooGreat_2,PySem.W.mg_of X G m_NoName,PySem.W.mg_of X G m_NoRule,PySem.W.mg_of X G m_NoKind,PySem.W.mg_of X G m_NoTree,PySem.W.mg_of X G m_NoPlace,PySem.W.mg_of X G m_NoGiven,PySem.W.mg_of X G m_NoWalk,PySem.W.mg_of X G m_Ring⟩⟩
end K35
namespace K35
open PySem L2 TR
open TM
theorem app_len (a b:Str):(a++b).length=a.length+b.length:=by rw[len_list,len_list,len_list,app_list,List.length_append]
def spWhl:Sp:=fun vs H Q _=>∃ i:Int,vs=[.int i]/\Q (.bl true) H
theorem fold_app:∀ (l:List (Array Nat)) (acc:Array Nat),(l.foldl (·++·) acc).toList=acc.toList++(l.map Array.toList).flatten
  | [],acc=>by simp
  | a::l,acc=>by rw[List.foldl_cons,fold_app l];simp
theorem mul_all (g:Nat) (n:Int):∀ c ∈ (Txt.mul ⟨#[g]⟩ n).cps.toList,c=g:=by
  intro c hc
  unfold Txt.mul at hc
  split at hc
  · exact absurd hc (by simp[Str.empty])
  · split at hc
    · simpa using hc
    · rw[show ((⟨(List.replicate n.toNat (#[g]:Array Nat)).foldl (·++·) #[]⟩ : Str)).cps.toList=_ from fold_app _ _] at hc
      simp only[List.map_replicate,List.nil_append,List.mem_flatten] at hc
      obtain⟨l,hl,h⟩:=hc
      have h1:0 < n/\l=[g]:=by simpa using hl
      rw[h1.2] at h
      simpa using h
abbrev letters26:Str:="abcdefghijklmnopqrstuvwxyz"
theorem let_in:∀ c ∈ letters26.cps.toList,letOk c=true:=by decide +kernel
theorem mul1_len (g:Nat) {n:Int} (h0:0 <= n):((Txt.mul ⟨#[g]⟩ n).length:Int)=n:=by
  have e:=PyProof.Rows.len_mul ⟨#[g]⟩ n
  have e1:(Str.length ⟨#[g]⟩)=1:=rfl
  rw[e1,if_neg (by simpa using h0)] at e
  omega
theorem mul_list (g:Nat) {n:Int} (h0:0 <= n):(Txt.mul ⟨#[g]⟩ n).cps.toList=List.replicate n.toNat g:=by
  have l:=mul1_len g h0
  rw[len_list] at l
  refine List.eq_replicate_iff.mpr ⟨by omega,mul_all g n⟩
noncomputable def wAt (c:Int):Nat:=(c / 8 % (1+c % 8)).toNat
noncomputable def wFill (c:Int):Nat:=letters26.cps.toList.getD (c / 64 % 26).toNat 97
noncomputable def wSign (c k:Int):Nat:=letters26.cps.toList.getD ((c / 1664+k) % 26).toNat 97
noncomputable def wLst (c k:Int):List Nat:=List.replicate (wAt c) (wFill c)++wSign c k::List.replicate ((1+c % 8).toNat - wAt c - 1) (wFill c)
noncomputable def wrd (c k:Int):Str:=mkS (wLst c k)
theorem let_len:letters26.cps.toList.length=26:=by decide +kernel
theorem at_let (c:Int):atI letters26.cps.toList (c % 26)=some (letters26.cps.toList.getD (c % 26).toNat 97)/\letOk (letters26.cps.toList.getD (c % 26).toNat 97)=true:=by
  have h0:=Int.emod_nonneg c (show (26:Int) ≠ 0 by decide)
  have h1:=Int.emod_lt_of_pos c (show (0:Int) < 26 by decide)
  generalize c % 26=m at h0 h1
  obtain⟨k,rfl⟩:=Int.eq_ofNat_of_zero_le h0
  have hl:=let_len
  have hk:k < letters26.cps.toList.length:=by omega
  have e:letters26.cps.toList.getD (Int.toNat (k:Int)) 97=letters26.cps.toList[k]:=by
    rw[List.getD_eq_getElem?_getD,show Int.toNat (k:Int)=k from rfl,List.getElem?_eq_getElem hk]
    rfl
  rw[e]
  exact⟨atI_nat (List.getElem?_eq_getElem hk),let_in _ (List.getElem_mem _)⟩
theorem let_inj:∀ i < 26,∀ j < 26,letters26.cps.toList.getD i 97=letters26.cps.toList.getD j 97->i=j:=by decide +kernel
theorem wrd_inj {c k j:Int} (h0:0 <= k) (h1:k < 26) (g0:0 <= j) (g1:j < 26) (e:wrd c k=wrd c j):k=j:=by
  have e:wLst c k=wLst c j:=by
    have:=congrArg (fun s:Str=>s.cps.toList) e
    unfold wrd at this
    simpa [mk_list] using this
  unfold wLst at e
  have e2:=(List.cons.inj (List.append_cancel_left e)).1
  unfold wSign at e2
  have k0:=Int.emod_nonneg (c / 1664+k) (show (26:Int) ≠ 0 by decide)
  have k1:=Int.emod_lt_of_pos (c / 1664+k) (show (0:Int) < 26 by decide)
  have j0:=Int.emod_nonneg (c / 1664+j) (show (26:Int) ≠ 0 by decide)
  have j1:=Int.emod_lt_of_pos (c / 1664+j) (show (0:Int) < 26 by decide)
  have:=let_inj _ (by omega) _ (by omega) e2
  omega
def spWord:Sp:=fun vs H Q _=>∃ c k:Int,vs=[.int c,.int k]/\Q (.str (wrd c k)) H
def spDeck (K:PySem.W.Frag):Sp:=fun vs H Q _=>∃ (a:Addr) (cs:List Int),vs=[.ref a,.int 200]/\H a=some (.lst (cs.map V.int))/\cs.length <= 63/\(∀ c ∈ cs,0 <= c/\c < 1000000000000000000) /\
  ∀ (D:Addr) (cs:List Int) (H':Hp),Same H H'->H D=none->H' D=some (.lst (cs.map V.int))->cs.length=200->(∀ c ∈ cs,0 <= c/\c < 1000000000000000000)->Q (.ref D) H'
section
variable {P:Program} {w:World} {K:PySem.W.Frag} {mg:Str->Option Value} {base:Heap} {T:Adr}
theorem ok_word (X:Tx K mg T):FnOk P w K mg base CX0 1 T.qword T.d_qword ["_law_cell", "_law_k"] spWord:=by
  refine X.F_qword.okQ sc_qword (fun vs H Q E h=>?_) (fun cdv A outer s H vs Q E hr h=>?_)
  · obtain⟨_,_,rfl,_⟩:=h
    rfl
  obtain⟨c,k,rfl,q⟩:=h
  refine⟨_,(qss_cons (qs_set (i:=2) sc_qword.nd rfl (Or.inl rfl) qe_str) (qss_cons (qs_set (i:=3) sc_qword.nd rfl (Or.inl rfl) (qe_op op_add qe_int (qe_op op_mod (qv 0) qe_int))) (qss_cons (qs_set (i:=4) sc_qword.nd rfl (Or.inl rfl) (qe_op op_mod (qe_op op_fdiv (qv 0) qe_int) (qv 3))) (qss_cons (qs_set (i:=5) sc_qword.nd rfl (Or.inl rfl) (qe_ix ix_str (qv 2) (qe_op op_mod (qe_op op_fdiv (qv 0) qe_int) qe_int) (fun _ _=>rfl))) (qss_one (qs_ret (qe_op op_add_str (qe_op op_add_str (qe_op op_rep_str (qv 5) (qv 4)) (qe_ix ix_str (qv 2) (qe_op op_mod (qe_op op_add (qe_op op_fdiv (qv 0) qe_int) (qv 1)) qe_int) (fun _ _=>rfl))) (qe_op op_rep_str (qv 5) (qe_op op_sub (qe_op op_sub (qv 3) (qv 4)) qe_int))))))))),?_⟩
  have c0:=Int.emod_nonneg c (show (8:Int) ≠ 0 by decide)
  have c1:=Int.emod_lt_of_pos c (show (0:Int) < 8 by decide)
  have hpos:(0:Int) < 1+c % 8:=by omega
  have a0:=Int.emod_nonneg (c / 8) (show (1+c % 8:Int) ≠ 0 by omega)
  have a1:=Int.emod_lt_of_pos (c / 8) hpos
  have hg:=(at_let (c / 64)).1
  have hg2:=(at_let (c / 1664+k)).1
  refine⟨_,rfl,_,_,rfl,rfl,(by show (0:Int) < 8;decide),_,_,rfl,rfl,?_⟩
  refine⟨_,rfl,_,_,rfl,rfl,⟨by decide,by decide⟩,_,rfl,_,_,rfl,rfl,hpos,?_⟩
  refine⟨_,rfl,_,rfl,_,_,rfl,rfl,⟨by decide,by decide⟩,_,_,rfl,rfl,(by show (0:Int) < 26;decide),letters26,_,wFill c,rfl,rfl,(by decide +kernel),hg,?_⟩
  have l1:=mul1_len (wFill c) (n:=c / 8 % (1+c % 8)) (by omega)
  have l2:=mul1_len (wFill c) (n:=1+c % 8 - c / 8 % (1+c % 8) - 1) (by omega)
  have e1:(Str.length ⟨#[wFill c]⟩)=1:=rfl
  have e2:(Str.length ⟨#[wSign c k]⟩)=1:=rfl
  refine⟨_,rfl,_,rfl,_,_,rfl,rfl,(by rw[e1];decide),by omega,by omega,_,rfl,_,rfl,_,_,rfl,rfl,⟨by decide,by decide⟩,_,rfl,_,_,rfl,rfl,_,_,rfl,rfl,(by show (0:Int) < 26;decide),letters26,_,wSign c k,rfl,rfl,(by decide +kernel),hg2,_,_,rfl,rfl,fits2 (by omega),?_⟩
  refine⟨_,rfl,_,rfl,_,rfl,_,_,rfl,rfl,_,_,rfl,rfl,_,_,rfl,rfl,(by rw[e1];decide),by omega,by omega,_,_,rfl,rfl,fits2 (by rw[app_len];omega),?_⟩
  have ez:Txt.mul ⟨#[wFill c]⟩ (c / 8 % (1+c % 8))++(⟨#[wSign c k]⟩ : Str)++Txt.mul ⟨#[wFill c]⟩ (1+c % 8 - c / 8 % (1+c % 8) - 1)=wrd c k:=by
    refine str_ext ?_
    unfold wrd wLst wAt
    rw[mk_list,app_list,app_list,mul_list _ (by omega),mul_list _ (by omega)]
    have e:(1+c % 8 - c / 8 % (1+c % 8) - 1).toNat=(1+c % 8).toNat - (c / 8 % (1+c % 8)).toNat - 1:=by omega
    rw[e]
    simp
  rw[ez]
  exact q
theorem ok_whole' (X:Tx K mg T):FnOk P w K mg base CX0 1 T.qwhole T.d_qwhole ["_law_found"] spWhl:=by
  refine X.F_qwhole.okQ sc_qwhole (fun vs H Q E h=>?_) (fun cdv A outer s H vs Q E hr h=>?_)
  · obtain⟨_,rfl,_⟩:=h
    rfl
  obtain⟨i,rfl,q⟩:=h
  refine⟨_,(qss_one (qs_ret (qe_and (qe_callB call_isinst rfl X.z_isinstance PyProof.Rows.boot_isinstance (qaN (qv 0) (qaN (qe_bltn rfl X.z_int PyProof.Rows.boot_int rfl (v:=.ty "int")) qa_nil))) (qe_one (qe_not (qe_callB call_isinst rfl X.z_isinstance PyProof.Rows.boot_isinstance (qaN (qv 0) (qaN (qe_bltn rfl X.z_bool PyProof.Rows.boot_bool rfl (v:=.ty "bool")) qa_nil)))))))),?_⟩
  dsimp only[cxOf]
  exact⟨_,rfl,_, "int",_,_,rfl,.int i,k_ii,_,rfl,iteT ⟨_,rfl,_, "bool",_,_,rfl,.int i,k_ib,_,rfl,q⟩⟩
theorem ok_deck (X:Tx K mg T):FnOk P w K mg base CX0 1 T.qdeck T.d_qdeck ["_law_cells", "_law_many"] (spDeck K):=by
  refine X.F_qdeck.okQ sc_qdeck (fun vs H Q E h=>?_) (fun cdv A outer s H vs Q E hr h=>?_)
  · obtain⟨_,_,rfl,_⟩:=h
    rfl
  obtain⟨a,ms,rfl,ha,lms,hms,q⟩:=h
  refine⟨_,(qss_cons (qs_set (i:=2) sc_qdeck.nd rfl (Or.inl rfl) (qe_callTy call_list_of rfl X.z_list PyProof.Rows.boot_list (qaN (qv 0) qa_nil))) (qss_cons (qs_set (i:=3) sc_qdeck.nd rfl (Or.inl rfl) (qe_op op_add qe_int (qe_callB call_len_seq rfl X.z_len PySem.boot_len (qaN (qv 2) qa_nil)))) (qss_cons (qs_for PassesOwn.never rfl (qi_list (qv 0)) (qg_name (i:=4) sc_qdeck.nd rfl (Or.inl rfl)) (qss_one (qs_set (i:=3) sc_qdeck.nd rfl (Or.inl rfl) (qe_op op_mod (qe_op op_add (qe_op op_mul (qv 3) qe_int) (qv 4)) qe_int)))) (qss_cons (qs_while PassesOwn.never (qt_cmpR op_lt (qe_callB call_len_seq rfl X.z_len PySem.boot_len (qaN (qv 2) qa_nil)) (qv 1) (nomark _)) (qss_cons (qs_set (i:=3) sc_qdeck.nd rfl (Or.inl rfl) (qe_op op_mod (qe_op op_add (qe_op op_mul (qv 3) qe_int) qe_int) qe_int)) (qss_one (qs_expr (qe_bm PySem.F.plainAttrs_list PySem.F.slot_list_append PySem.F.type_list_append mt_append (qv 2) (qaN (qv 3) qa_nil)))))) (qss_one (qs_ret (qe_listRev rfl rfl X.z_list rfl X.z_reversed (qv 2)))))))),?_⟩
  dsimp only[cxOf]
  refine⟨_,rfl,a,_,rfl,.inl (SqL.of ha),fun D hD=>?_⟩
  have s0:=same_new hD (.lst (ms.map V.int))
  refine⟨_,rfl,D,_,rfl,.inl (SqL.of upd_same),_,_,rfl,rfl,?_⟩
  refine⟨_,rfl,a,rfl,⟨_,SqL.of (s0 _ _ ha)⟩,?_⟩
  refine for_list (K:=K) (a:=a) (xs:=ms.map V.int) (fun i σ H'=>(∃ sd x4,σ=[some (.ref a),some (.int 200),some (.ref D),some (.int sd),x4])/\H'=upd H D (.lst (ms.map V.int))) ⟨⟨_,_,rfl⟩,rfl⟩ (fun i σ H' _ ⟨_,e⟩=>by rw[e];exact SqL.of (s0 _ _ ha)) ?_ ?_
  · rintro i y σ H' hy ⟨⟨sd,x4,rfl⟩,rfl⟩
    rw[List.getElem?_map] at hy
    cases e:ms[i]? with
    | none=>rw[e] at hy;cases hy
    | some n=>
      rw[e] at hy
      cases hy
      exact⟨_,rfl,_,_,rfl,rfl,.inr ⟨by decide,by decide⟩,_,rfl,_,_,rfl,rfl,_,_,rfl,rfl,(by show (0:Int) < 999999937;decide),⟨_,_,rfl⟩,rfl⟩
  · rintro σ H' ⟨⟨sd,x4,rfl⟩,rfl⟩
    refine⟨fun m σ H'=>∃ (sd:Int) (x4:Option V) (cs:List Int),m=200 - cs.length/\σ=[some (.ref a),some (.int 200),some (.ref D),some (.int sd),x4]/\Same H H'/\H' D=some (.lst (cs.map V.int))/\cs.length <= 200/\∀ c ∈ cs,0 <= c/\c < 1000000000000000000,⟨_,sd,x4,ms,rfl,rfl,s0,upd_same,by omega,hms⟩,?_⟩
    rintro m σ H2 ⟨sd,x4,cs,rfl,rfl,sm,hd,lc,hc⟩
    refine⟨_,rfl,D,_,rfl,.inl (SqL.of hd),_,rfl,_,_,rfl,rfl,_,rfl,iteDd (fun hlt=>⟨_,fun σ' H'' h=>h,?_⟩) (fun hge=>?_)⟩
    · rw[List.length_map] at hlt
      refine⟨_,rfl,_,_,rfl,rfl,.inr ⟨by decide,by decide⟩,_,_,rfl,rfl,_,_,rfl,rfl,(by show (0:Int) < 2147483647;decide),?_⟩
      have b0:=Int.emod_nonneg (sd * 48271+11) (show (2147483647:Int) ≠ 0 by decide)
      have b1:=Int.emod_lt_of_pos (sd * 48271+11) (show (0:Int) < 2147483647 by decide)
      refine⟨_,rfl,.inl ⟨rfl,_,SqL.of hd⟩,_,rfl,D,_,_,rfl,rfl,hd,fitsL (by rw[List.length_map];omega),?_⟩
      refine⟨200 - (cs++[(sd * 48271+11) % 2147483647]).length,by rw[List.length_append,List.length_singleton];omega,_,_,cs++[(sd * 48271+11) % 2147483647],rfl,rfl,same_upd hD sm,by rw[upd_same,List.map_append];rfl,by rw[List.length_append,List.length_singleton];omega,fun c hm=>?_⟩
      rcases List.mem_append.mp hm with h | h
      · exact hc c h
      · rw[List.mem_singleton.mp h]
        exact⟨b0,by omega⟩
    · rw[List.length_map] at hge
      refine⟨_,rfl,D,_,rfl,SqL.of hd,fun r hr=>?_⟩
      refine q r cs.reverse _ (sm.trans (same_new hr _)) (sm.free hr) (by rw[upd_same,List.map_reverse]) (by rw[List.length_reverse];omega) fun c hm=>hc c (List.mem_reverse.mp hm)
end
end K35
namespace K35
open PySem L2 TR
open TM
theorem hu_of {k:Nat} {A:Around} (r:Room k A):A.units+1 < cLine:=by have:=r.un;omega
structure Rw where
  sg:Str
  rc:List (Str × Str)
  nm:Str
  low:List Nat
noncomputable def lowV (l:List Nat):List V:=l.map fun (n:Nat)=>V.int (n:Int)
def RwIs (H:Hp) (r:Rw) (v:V):Prop:=∃ p rp rus t,v=.ref p/\H p=some (.tup [.str r.sg,.ref rp,.str r.nm,.ref t])/\H rp=some (.tup rus)/\L2R (PrIs H) r.rc rus/\H t=some (.tup (lowV r.low))
def RwOk (rs:List Rw):Prop:=rs.length <= 100/\∀ (i:Nat) (r:Rw),rs[i]?=some r->r.low.length <= 3/\∀ n ∈ r.low,n < i
noncomputable def mx (l:List Int):Int:=l.foldl max 0
noncomputable def stS (acc:List Int) (r:Rw):List Int:=acc++[1+(r.low.map fun n=>acc.getD n 0).sum]
noncomputable def stD (acc:List Int) (r:Rw):List Int:=acc++[1+mx (r.low.map fun n=>acc.getD n 0)]
noncomputable def szs (rs:List Rw):List Int:=rs.foldl stS []
noncomputable def dps (rs:List Rw):List Int:=rs.foldl stD []
theorem szs_snoc (rs:List Rw) (r:Rw):szs (rs++[r])=stS (szs rs) r:=by unfold szs;rw[List.foldl_append];rfl
theorem dps_snoc (rs:List Rw) (r:Rw):dps (rs++[r])=stD (dps rs) r:=by unfold dps;rw[List.foldl_append];rfl
theorem snoc_ind {α:Type} {M:List α->Prop} (h0:M []) (h1:∀ l a,M l->M (l++[a])) (l:List α):M l:=by
  rw[<- List.reverse_reverse l]
  induction l.reverse with
  | nil=>exact h0
  | cons a m ih=>rw[List.reverse_cons];exact h1 _ _ ih
theorem szs_len (rs:List Rw):(szs rs).length=rs.length:=by
  refine snoc_ind (M:=fun rs=>(szs rs).length=rs.length) rfl (fun l a ih=>?_) rs
  rw[szs_snoc,stS,List.length_append,ih,List.length_append];rfl
theorem dps_len (rs:List Rw):(dps rs).length=rs.length:=by
  refine snoc_ind (M:=fun rs=>(dps rs).length=rs.length) rfl (fun l a ih=>?_) rs
  rw[dps_snoc,stD,List.length_append,ih,List.length_append];rfl
theorem szs_app (rs qs:List Rw):∃ t,szs (rs++qs)=szs rs++t:=by
  refine snoc_ind (M:=fun qs=>∃ t,szs (rs++qs)=szs rs++t) ⟨[],by simp⟩ (fun l a ⟨t,ih⟩=>?_) qs
  rw[<- List.append_assoc,szs_snoc,ih]
  exact⟨_,by unfold stS;rw[List.append_assoc]⟩
theorem dps_app (rs qs:List Rw):∃ t,dps (rs++qs)=dps rs++t:=by
  refine snoc_ind (M:=fun qs=>∃ t,dps (rs++qs)=dps rs++t) ⟨[],by simp⟩ (fun l a ⟨t,ih⟩=>?_) qs
  rw[<- List.append_assoc,dps_snoc,ih]
  exact⟨_,by unfold stD;rw[List.append_assoc]⟩
theorem szs_take (rs:List Rw) (k i:Nat) (h:i < k):(szs (rs.take k))[i]?=(szs rs)[i]?:=by
  obtain⟨t,e⟩:=szs_app (rs.take k) (rs.drop k)
  rw[List.take_append_drop] at e
  by_cases hi:i < rs.length
  · rw[e,List.getElem?_append_left (by rw[szs_len,List.length_take];omega)]
  · rw[List.getElem?_eq_none (by rw[szs_len,List.length_take];omega),List.getElem?_eq_none (by rw[szs_len];omega)]
theorem dps_take (rs:List Rw) (k i:Nat) (h:i < k):(dps (rs.take k))[i]?=(dps rs)[i]?:=by
  obtain⟨t,e⟩:=dps_app (rs.take k) (rs.drop k)
  rw[List.take_append_drop] at e
  by_cases hi:i < rs.length
  · rw[e,List.getElem?_append_left (by rw[dps_len,List.length_take];omega)]
  · rw[List.getElem?_eq_none (by rw[dps_len,List.length_take];omega),List.getElem?_eq_none (by rw[dps_len];omega)]
theorem mx_le (l:List Int):∀ (a:Int),a <= l.foldl max a/\∀ x ∈ l,x <= l.foldl max a:=by
  induction l with
  | nil=>intro a;exact⟨Int.le_refl _,fun x hx=>nomatch hx⟩
  | cons b l ih=>
    intro a
    rw[List.foldl_cons]
    obtain⟨h1,h2⟩:=ih (max a b)
    refine⟨by omega,fun x hx=>?_⟩
    rcases List.mem_cons.mp hx with rfl | hx
    · omega
    · exact h2 x hx
theorem mx_in (l:List Int):∀ (a:Int),l.foldl max a=a\/l.foldl max a ∈ l:=by
  induction l with
  | nil=>intro a;exact .inl rfl
  | cons b l ih=>
    intro a
    rw[List.foldl_cons]
    rcases ih (max a b) with h | h
    · rw[h]
      by_cases z:a <= b
      · exact .inr (List.mem_cons.mpr (.inl (by omega)))
      · exact .inl (by omega)
    · exact .inr (List.mem_cons_of_mem _ h)
theorem mx_eq {l:List Int} {M:Int} (hp:∀ x ∈ l,0 <= x) (hm:M ∈ l\/M=0) (hle:∀ x ∈ l,x <= M) (h0:0 <= M):M=mx l:=by
  unfold mx
  obtain⟨h1,h2⟩:=mx_le l 0
  have h3:M <= l.foldl max 0:=by
    rcases hm with h | h
    · exact h2 M h
    · omega
  rcases mx_in l 0 with h | h
  · omega
  · have:=hle _ h;omega
theorem dps_pos (rs:List Rw):∀ x ∈ dps rs,1 <= x:=by
  refine snoc_ind (M:=fun rs=>∀ x ∈ dps rs,1 <= x) (fun x hx=>nomatch hx) (fun l a ih x hx=>?_) rs
  rw[dps_snoc,stD] at hx
  rcases List.mem_append.mp hx with h | h
  · exact ih x h
  · rw[List.mem_singleton.mp h]
    have:=(mx_le (a.low.map fun n=>(dps l).getD n 0) 0).1
    unfold mx
    omega
def Big (rs:List Rw) (n:Nat):Prop:=60 < (szs rs).getD n 0\/20 < (dps rs).getD n 0
def spCheck (N:Addr):Sp:=fun vs H Q E=>∃ (a:Addr) (us:List V) (rs:List Rw) (n:Nat),vs=[.ref a,.int n]/\H a=some (.lst us)/\L2R (RwIs H) rs us/\RwOk rs/\n < rs.length /\
  (∀ H',Same H H'->¬ Big rs n->Q .non H')/\(∀ H',Same H H'->Big rs n->E (.ref N) none H')
theorem RwIs.same {H H':Hp} (s:Same H H') {r:Rw} {v:V} (h:RwIs H r v):RwIs H' r v:=by
  obtain⟨p,rp,rus,t,e,h1,h2,h3,h4⟩:=h
  exact⟨p,rp,rus,t,e,s _ _ h1,s _ _ h2,h3.imp fun _ _ ⟨q,e,hq⟩=>⟨q,e,s _ _ hq⟩,s _ _ h4⟩
section
variable {P:Program} {w:World} {K:PySem.W.Frag} {mg:Str->Option Value} {base:Heap} {T:Adr}
theorem low_comp {K:PySem.W.Frag} {js:List Nat} {te:TE} {σ:St} {Q:VK} {D S t:Addr} {H:Hp} {low:List Nat} {acc:List Int} (hl:low.length <= 3) (hlt:∀ n ∈ low,n < acc.length) (ht:H t=some (.tup (lowV low))) (hD:H D=none) (hS:H S=some (.lst (acc.map V.int)))
    (he:∀ (n:Nat) (z:Int) (H1:Hp),acc[n]?=some z->H1 S=some (.lst (acc.map V.int))->∀ Q':VK,Q' (.int z) H1->te (some (.int n)::compS js σ) H1 Q')
    (hq:∀ H',Same H H'->H' D=some (.lst ((low.map fun n=>acc.getD n 0).map V.int))->Q (.ref D) H'):CompW (Itt K t) js tYes te σ Q D H:=by
  refine comp_tupM (K:=K) (xs:=lowV low) (ys:=(low.map fun n=>acc.getD n 0).map V.int) (fitsL (by unfold lowV;rw[List.length_map];omega)) (by unfold lowV;simp) (SqT.of ht) hD (fun i x y H2 hx hy s2 Q' k=>?_) hq
  unfold lowV at hx
  rw[List.getElem?_map] at hx
  rw[List.getElem?_map,List.getElem?_map] at hy
  cases e:low[i]? with
  | none=>rw[e] at hx;cases hx
  | some n=>
    rw[e] at hx hy
    cases hx
    cases hy
    have hn:=hlt n (List.mem_of_getElem? e)
    refine he n (acc.getD n 0) H2 (by rw[List.getD_eq_getElem?_getD,List.getElem?_eq_getElem hn];rfl) (s2 _ _ hS) Q' (k H2 (Same.refl _))
theorem ok_check (X:Tx K mg T):FnOk P w K mg base (CXe P w) 1 T.qcheckgrowth T.d_qcheckgrowth ["rows", "number"] (spCheck T.k_TooGreat):=by
  refine X.F_qcheckgrowth.okE sc_qcheckgrowth (fun vs H Q E h=>?_) (fun cdv A outer s H vs Q E hr h=>?_)
  · obtain⟨_,_,_,_,rfl,_⟩:=h
    rfl
  obtain⟨a,us,rs,n,rfl,ha,hrs,ok,hn,q,qe⟩:=h
  refine⟨_,(qss_cons (qs_set (i:=2) sc_qcheckgrowth.nd rfl (Or.inr rfl) (qe_lst qa_nil)) (qss_cons (qs_set (i:=3) sc_qcheckgrowth.nd rfl (Or.inr rfl) (qe_lst qa_nil)) (qss_cons (qs_for PassesOwn.leaving rfl (qi_list (qe_slice sl_list (qv 0) qo_none (qo_some (qe_op op_add (qv 1) qe_int)))) (qg_name (i:=4) sc_qcheckgrowth.nd rfl (Or.inl rfl)) (qss_cons (qs_expr (qe_bm PySem.F.plainAttrs_list PySem.F.slot_list_append PySem.F.type_list_append mt_append (qv 2) (qaB (qe_op op_add qe_int (qe_callB (call_sum rfl) rfl X.z_sum PyProof.Rows.boot_sum (qaE (qe_comp (ys:=["sizes"]) (js:=[2]) rfl rfl (qi_tup (qe_ix ix_tup (qv 4) qe_int (fun _ _=>rfl))) (fun _ _ _ _ _=>qif_nil) (fun _ _ _ _ _=>(qe_ix (ix_listC (K:=K) rfl) (qv 1) (qv 0) (fun _ _=>rfl)))) qa_nil))) qa_nil))) (qss_one (qs_expr (qe_bm PySem.F.plainAttrs_list PySem.F.slot_list_append PySem.F.type_list_append mt_append (qv 3) (qaB (qe_op op_add qe_int (qe_maxD rfl rfl X.z_max (qe_comp (ys:=["depths"]) (js:=[3]) rfl rfl (qi_tup (qe_ix ix_tup (qv 4) qe_int (fun _ _=>rfl))) (fun _ _ _ _ _=>qif_nil) (fun _ _ _ _ _=>(qe_ix (ix_listC (K:=K) rfl) (qv 1) (qv 0) (fun _ _=>rfl)))))) qa_nil)))))) (qss_one (qs_if (qw_pt (qw_or (qt_cmpR op_gt (qe_ix ix_list (qv 2) (qv 1) (fun _ _=>rfl)) (qe_glob rfl X.c_MOST_NODES (v:=V.int 60) ⟨_,rfl⟩) (nomark _)) (qw_or1 (qt_cmpR op_gt (qe_ix ix_list (qv 3) (qv 1) (fun _ _=>rfl)) (qe_glob rfl X.c_MOST_DEEP (v:=V.int 20) ⟨_,rfl⟩) (nomark _))))) (qss_one (qs_raise rfl rfl X.m_TooGreat X.e_TooGreat (qaJ (qe_join (qj_cons qe_str (qj_cons (qe_fmt (qe_glob rfl X.c_MOST_NODES (v:=V.int 60) ⟨_,rfl⟩)) (qj_cons qe_str (qj_cons (qe_fmt (qe_glob rfl X.c_MOST_DEEP (v:=V.int 20) ⟨_,rfl⟩)) qj_nil))))) qa_nil) xe_raise)) qss_nil))))),?_⟩
  dsimp only[cxOf]
  have lr:=hrs.len
  have l100:=ok.1
  refine⟨(by show 0 <= sizeLine;decide),fun S hS=>?_⟩
  have s0:=same_new hS (.lst [])
  refine⟨(by show 0 <= sizeLine;decide),fun D hD=>?_⟩
  have s1:=same_new hD (.lst [])
  have nD:D ≠ S:=fun z=>by rw[z,upd_same] at hD;cases hD
  have hDH:H D=none:=s0.free hD
  refine⟨_,rfl,_,rfl,_,_,rfl,rfl,_,rfl,a,_,rfl,SqL.of (s1 _ _ (s0 _ _ ha)),fun sl hsl=>?_⟩
  have ecs:cutV us none (some ((n:Int)+1))=us.take (n+1):=by
    rw[show ((n:Int)+1)=((n+1:Nat):Int) by omega,cut_take']
  rw[ecs]
  have s2:=same_new hsl (.lst (us.take (n+1)))
  have nsS:sl ≠ S:=fun z=>by rw[z,s1 _ _ upd_same] at hsl;cases hsl
  have nsD:sl ≠ D:=fun z=>by rw[z,upd_same] at hsl;cases hsl
  generalize hB:upd (upd (upd H S (.lst [])) D (.lst [])) sl (.lst (us.take (n+1)))=B at s2
  have hBsl:B sl=some (.lst (us.take (n+1))):=by rw[<- hB,upd_same]
  have hBS:B S=some (.lst (([]:List Int).map V.int)):=s2 _ _ (s1 _ _ upd_same)
  have hBD:B D=some (.lst (([]:List Int).map V.int)):=s2 _ _ upd_same
  have sB:Same H B:=(s0.trans s1).trans s2
  refine⟨sl,rfl,⟨_,SqL.of hBsl⟩,?_⟩
  refine for_list (K:=K) (a:=sl) (xs:=us.take (n+1)) (fun i σ H'=>∃ x4,σ=[some (.ref a),some (.int n),some (.ref S),some (.ref D),x4]/\Same H H'/\H' sl=some (.lst (us.take (n+1)))/\H' S=some (.lst ((szs (rs.take i)).map V.int))/\H' D=some (.lst ((dps (rs.take i)).map V.int))) ⟨none,rfl,sB,hBsl,hBS,hBD⟩ (fun i σ H' _ ⟨_,_,_,h,_⟩=>SqL.of h) ?_ ?_
  · rintro i v σ H' hv ⟨x4,rfl,sm,hsl',hS',hD'⟩
    have hi:i < n+1:=by have:=lt_of_some hv;rw[List.length_take] at this;omega
    rw[List.getElem?_take_of_lt hi] at hv
    obtain⟨r,hr',p,rp,rus,t,rfl,hp,_,_,ht⟩:=hrs.get hv
    obtain⟨o1,o2⟩:=ok.2 i r hr'
    have il:=lt_of_some hr'
    have lt:(rs.take i).length=i:=by rw[List.length_take];omega
    have hp':=sm _ _ hp
    have ht':=sm _ _ ht
    refine⟨_,rfl,.inl ⟨rfl,_,SqL.of hS'⟩,_,rfl,p,_,3,.ref t,rfl,rfl,SqT.of hp',rfl,t,rfl,⟨_,SqT.of ht'⟩,fun C hC=>?_⟩
    refine low_comp (K:=K) (S:=S) (low:=r.low) (acc:=szs (rs.take i)) o1 (fun m hm=>by rw[szs_len,lt];exact o2 m hm) ht' hC hS' (fun m z H1 hz h1 Q' k=>?_) fun H1 s3 hC1=>?_
    · exact⟨_,rfl,_,rfl,S,_,_,.int z,rfl,rfl,SqL.of h1,atI_nat (by rw[List.getElem?_map,hz];rfl),k⟩
    refine⟨C,_,rfl,SqL.of hC1,_,_,rfl,rfl,?_⟩
    have lz:(szs (rs.take i)).length=i:=by rw[szs_len,lt]
    have ld:(dps (rs.take i)).length=i:=by rw[dps_len,lt]
    refine⟨S,_,_,rfl,rfl,s3 _ _ hS',fitsL (by rw[List.length_map];omega),?_⟩
    have sS:Same H (upd H1 S (.lst ((szs (rs.take i)).map V.int++[.int (1+(r.low.map fun n=>(szs (rs.take i)).getD n 0).sum)]))):=same_upd hS (sm.trans s3)
    have nSl:sl ≠ S:=nsS
    have hD3:(upd H1 S (.lst ((szs (rs.take i)).map V.int++[.int (1+(r.low.map fun n=>(szs (rs.take i)).getD n 0).sum)]))) D=some (.lst ((dps (rs.take i)).map V.int)):=by rw[upd_ne nD];exact s3 _ _ hD'
    have hsl3:(upd H1 S (.lst ((szs (rs.take i)).map V.int++[.int (1+(r.low.map fun n=>(szs (rs.take i)).getD n 0).sum)]))) sl=some (.lst (us.take (n+1))):=by rw[upd_ne nSl];exact s3 _ _ hsl'
    have hS3:(upd H1 S (.lst ((szs (rs.take i)).map V.int++[.int (1+(r.low.map fun n=>(szs (rs.take i)).getD n 0).sum)]))) S=some (.lst ((szs (rs.take (i+1))).map V.int)):=by
      rw[upd_same,take_snocA hr',szs_snoc]
      unfold stS
      rw[List.map_append]
      rfl
    generalize upd H1 S (.lst ((szs (rs.take i)).map V.int++[.int (1+(r.low.map fun n=>(szs (rs.take i)).getD n 0).sum)]))=H3 at sS hD3 hsl3 hS3
    refine⟨_,rfl,.inl ⟨rfl,_,SqL.of hD3⟩,_,rfl,p,_,3,.ref t,rfl,rfl,SqT.of (sS _ _ hp),rfl,t,rfl,⟨_,SqT.of (sS _ _ ht)⟩,fun C2 hC2=>?_⟩
    refine low_comp (K:=K) (S:=D) (low:=r.low) (acc:=dps (rs.take i)) o1 (fun m hm=>by rw[dps_len,lt];exact o2 m hm) (sS _ _ ht) hC2 hD3 (fun m z H1 hz h1 Q' k=>?_) fun H4 s4 hC4=>?_
    · exact⟨_,rfl,_,rfl,D,_,_,.int z,rfl,rfl,SqL.of h1,atI_nat (by rw[List.getElem?_map,hz];rfl),k⟩
    have fin:∀ M:Int,M=mx (r.low.map fun n=>(dps (rs.take i)).getD n 0)->∃ x4,[some (V.ref a),some (.int (n:Int)),some (.ref S),some (.ref D),some (.ref p)]=[some (.ref a),some (.int n),some (.ref S),some (.ref D),x4]/\Same H (upd H4 D (.lst ((dps (rs.take i)).map V.int++[.int (1+M)])))/\upd H4 D (.lst ((dps (rs.take i)).map V.int++[.int (1+M)])) sl=some (.lst (us.take (n+1)))/\upd H4 D (.lst ((dps (rs.take i)).map V.int++[.int (1+M)])) S=some (.lst ((szs (rs.take (i+1))).map V.int))/\upd H4 D (.lst ((dps (rs.take i)).map V.int++[.int (1+M)])) D=some (.lst ((dps (rs.take (i+1))).map V.int)):=by
      intro M hM
      refine⟨_,rfl,same_upd hDH (sS.trans s4),by rw[upd_ne nsD];exact s4 _ _ hsl3,by rw[upd_ne nD.symm];exact s4 _ _ hS3,?_⟩
      rw[upd_same,take_snocA hr',dps_snoc,hM]
      unfold stD
      rw[List.map_append]
      rfl
    have pos:∀ x ∈ (r.low.map fun n=>(dps (rs.take i)).getD n 0),0 <= x:=fun x hx=>by
      obtain⟨m,hm,rfl⟩:=List.mem_map.mp hx
      have hm2:m < (dps (rs.take i)).length:=by rw[ld];exact o2 m hm
      have:=dps_pos (rs.take i) ((dps (rs.take i))[m]) (List.getElem_mem hm2)
      rw[List.getD_eq_getElem?_getD,List.getElem?_eq_getElem hm2]
      show 0 <= (dps (rs.take i))[m]
      omega
    refine⟨C2,_,rfl,SqL.of hC4,fun e0=>?_,fun M hM hle=>?_⟩
    · refine⟨_,_,rfl,rfl,D,_,_,rfl,rfl,s4 _ _ hD3,fitsL (by rw[List.length_map];omega),fin 0 ?_⟩
      rw[e0]
      rfl
    · refine⟨_,_,rfl,rfl,D,_,_,rfl,rfl,s4 _ _ hD3,fitsL (by rw[List.length_map];omega),fin M (mx_eq pos (.inl hM) hle ?_)⟩
      exact pos M hM
  · rintro σ H' ⟨x4,rfl,sm,hsl',hS',hD'⟩
    have lk:(us.take (n+1)).length=n+1:=by rw[List.length_take];omega
    rw[lk] at hS' hD'
    have hz:(szs (rs.take (n+1)))[n]?=some ((szs rs).getD n 0):=by
      rw[szs_take _ _ _ (Nat.lt_succ_self n),List.getD_eq_getElem?_getD,List.getElem?_eq_getElem (by rw[szs_len];exact hn)]
      rfl
    have hd:(dps (rs.take (n+1)))[n]?=some ((dps rs).getD n 0):=by
      rw[dps_take _ _ _ (Nat.lt_succ_self n),List.getD_eq_getElem?_getD,List.getElem?_eq_getElem (by rw[dps_len];exact hn)]
      rfl
    refine⟨_,rfl,_,rfl,S,_,_,.int ((szs rs).getD n 0),rfl,rfl,SqL.of hS',atI_nat (by rw[List.getElem?_map,hz];rfl),_,_,rfl,rfl,_,rfl,?_⟩
    refine iteDd (fun h=>?_) (fun h=>⟨_,rfl,_,rfl,D,_,_,.int ((dps rs).getD n 0),rfl,rfl,SqL.of hD',atI_nat (by rw[List.getElem?_map,hd];rfl),_,_,rfl,rfl,_,rfl,iteDd (fun h2=>?_) (fun h2=>q H' sm fun z=>z.elim h h2)⟩)
    · exact⟨_,rfl,by decide +kernel,.inr ⟨60,rfl,by decide,_,rfl,by decide +kernel,_,rfl,by decide +kernel,.inr ⟨20,rfl,by decide,_,rfl,by decide +kernel,(by show 1 <= 10;decide),qe H' sm (.inl h)⟩⟩⟩
    · exact⟨_,rfl,by decide +kernel,.inr ⟨60,rfl,by decide,_,rfl,by decide +kernel,_,rfl,by decide +kernel,.inr ⟨20,rfl,by decide,_,rfl,by decide +kernel,(by show 1 <= 10;decide),qe H' sm (.inr h2)⟩⟩⟩
end
inductive GT (H:Hp) (rs:List Rw):Nat->V->Prop
  | node {n:Nat} {r:Rw} {p t:Addr} {vs:List V}:rs[n]?=some r->H p=some (.tup [.str r.nm,.int 0,.ref t])->H t=some (.tup vs)->vs.length=r.low.length->(∀ (i m:Nat) (v:V),r.low[i]?=some m->vs[i]?=some v->GT H rs m v)->GT H rs n (.ref p)
theorem GT.same {H H':Hp} {rs:List Rw} (s:SameT H H') {n:Nat} {v:V} (h:GT H rs n v):GT H' rs n v:=by
  induction h with
  | node hr hp ht hl _ ih=>exact .node hr (s _ _ hp) (s _ _ ht) hl ih
theorem dps_at {rs:List Rw} {i:Nat} {r:Rw} (h:rs[i]?=some r):(dps rs)[i]?=some (1+mx (r.low.map fun n=>(dps (rs.take i)).getD n 0)):=by
  have hi:=lt_of_some h
  rw[<- dps_take rs (i+1) i (Nat.lt_succ_self i),take_snocA h,dps_snoc]
  unfold stD
  have l:(dps (rs.take i)).length=i:=by rw[dps_len,List.length_take];omega
  rw[List.getElem?_append_right (by omega),l]
  simp
theorem dps_low {rs:List Rw} (ok:RwOk rs) {i m:Nat} {r:Rw} (h:rs[i]?=some r) (hm:m ∈ r.low):(dps rs).getD m 0+1 <= (dps rs).getD i 0:=by
  have hi:=lt_of_some h
  have hmi:=(ok.2 i r h).2 m hm
  have e1:(dps rs).getD i 0=1+mx (r.low.map fun n=>(dps (rs.take i)).getD n 0):=by rw[List.getD_eq_getElem?_getD,dps_at h];rfl
  have e2:(dps rs).getD m 0=(dps (rs.take i)).getD m 0:=by rw[List.getD_eq_getElem?_getD,List.getD_eq_getElem?_getD,dps_take _ _ _ hmi]
  have:=(mx_le (r.low.map fun n=>(dps (rs.take i)).getD n 0) 0).2 _ (List.mem_map.mpr ⟨m,hm,rfl⟩)
  unfold mx at e1
  omega
def spTree (d:Nat):Sp:=fun vs H Q _=>∃ (a:Addr) (us:List V) (rs:List Rw) (n:Nat),vs=[.ref a,.int n]/\H a=some (.lst us)/\L2R (RwIs H) rs us/\RwOk rs/\n < rs.length/\(dps rs).getD n 0 <= d /\
  ∀ v H',Same H H'->GT H' rs n v->Q v H'
section
variable {P:Program} {w:World} {K:PySem.W.Frag} {mg:Str->Option Value} {base:Heap} {T:Adr}
theorem ok_tree (X:Tx K mg T):∀ d:Nat,FnOk P w K mg base CX0 (d+1) T.qtreeby T.d_qtreeby ["rows", "number"] (spTree d)
  | 0=>by
    refine X.F_qtreeby.okQ sc_qtreeby (fun vs H Q E h=>?_) (fun cdv A outer s H vs Q E hr h=>?_)
    · obtain⟨_,_,_,_,rfl,_⟩:=h
      rfl
    obtain⟨a,us,rs,n,rfl,ha,hrs,ok,hn,hd,q⟩:=h
    have:=dps_pos rs ((dps rs).getD n 0) (by rw[List.getD_eq_getElem?_getD,List.getElem?_eq_getElem (by rw[dps_len];exact hn)];exact List.getElem_mem _)
    omega
  | d+1=>by
    have G_qtreeby:=ok_tree X d
    refine X.F_qtreeby.okQ sc_qtreeby (fun vs H Q E h=>?_) (fun cdv A outer s H vs Q E hr h=>?_)
    · obtain⟨_,_,_,_,rfl,_⟩:=h
      rfl
    obtain⟨a,us,rs,n,rfl,ha,hrs,ok,hn,hd,q⟩:=h
    refine⟨_,(qss_cons (qs_set (i:=2) sc_qtreeby.nd rfl (Or.inl rfl) (qe_ix ix_list (qv 0) (qv 1) (fun _ _=>rfl))) (qss_one (qs_ret (qe_tup (qaS (qe_ix ix_tup (qv 2) qe_int (fun _ _=>rfl)) (qaC qe_int (qaK (qe_callTy call_tuple_of rfl X.z_tuple PyProof.Rows.boot_tuple (qaE (qe_comp (ys:=["rows"]) (js:=[0]) rfl rfl (qi_tup (qe_ix ix_tup (qv 2) qe_int (fun _ _=>rfl))) (fun _ _ _ _ _=>qif_nil) (fun _ _ _ _ _=>(qe_call G_qtreeby hr rfl X.m_qtreeby X.F_qtreeby.kp X.b_qtreeby .nil pass0 (qaN (qv 1) (qaN (qv 0) qa_nil))))) qa_nil)) qa_nil))))))),?_⟩
    dsimp only[cxOf]
    have lr:=hrs.len
    obtain⟨v,hv⟩:=some_of_lt (xs:=us) (i:=n) (by omega)
    obtain⟨r,hr',p,rp,rus,t,rfl,hp,_,_,ht⟩:=hrs.get hv
    obtain⟨o1,o2⟩:=ok.2 n r hr'
    refine⟨_,rfl,_,rfl,a,_,_,.ref p,rfl,rfl,SqL.of ha,atI_nat hv,?_⟩
    refine⟨_,rfl,p,_,2,.str r.nm,rfl,rfl,SqT.of hp,rfl,_,rfl,p,_,3,.ref t,rfl,rfl,SqT.of hp,rfl,t,rfl,⟨_,SqT.of ht⟩,fun D hD=>?_⟩
    have ll:(lowV r.low).length=r.low.length:=by unfold lowV;rw[List.length_map]
    refine comp_tupR (K:=K) (xs:=lowV r.low) (as:=r.low) (R:=fun H m v=>GT H rs m v) (OffD.ofT fun _ _ _ _ e h=>GT.same e h) (fitsL (by omega)) ll.symm (SqT.of ht) hD (fun i x m H2 hx hm s2 _ Q' k=>?_) (fun ys H2 s2 hD2 hys=>?_)
    · unfold lowV at hx
      rw[List.getElem?_map,hm] at hx
      cases hx
      have hmem:=List.mem_of_getElem? hm
      have:=dps_low ok hr' hmem
      have hlt:=o2 m hmem
      refine⟨_,rfl,_,rfl,a,us,rs,m,rfl,s2 _ _ ha,hrs.imp fun _ _ h=>RwIs.same s2 h,ok,by omega,by omega,fun y H3 s3 g=>k y H3 s3 g⟩
    · have ly:=hys.len
      refine⟨D,_,rfl,.inl ⟨SqL.of hD2,fun t2 ht2=>?_⟩⟩
      have s3:=same_new ht2 (.tup ys)
      refine⟨(by show 3 <= sizeLine;decide),fun p2 hp2=>?_⟩
      have s4:=same_new hp2 (.tup [.str r.nm,.int 0,.ref t2])
      refine q _ _ ((s2.trans s3).trans s4) (.node hr' upd_same (s4 _ _ upd_same) ly fun i m v hm hv=>?_)
      obtain⟨m',hm',g⟩:=hys.get hv
      rw[hm] at hm'
      cases hm'
      exact (g.same (sameT s3)).same (sameT s4)
def spGrown (N:Addr):Sp:=fun vs H Q E=>∃ (g:V) (a:Addr) (us:List V) (rs:List Rw) (n:Nat),vs=[g,.ref a,.int n]/\H a=some (.lst us)/\L2R (RwIs H) rs us/\RwOk rs/\n < rs.length /\
  (∀ v H',Same H H'->¬ Big rs n->GT H' rs n v->Q v H')/\(∀ H',Same H H'->Big rs n->E (.ref N) none H')
theorem ok_pgrown (X:Tx K mg T):FnOk P w K mg base (CXe P w) 22 T.qgrown T.d_qgrown ["grammar", "rows", "number"] (spGrown T.k_TooGreat):=by
  have G_qcheckgrowth:=(ok_check (P:=P) (w:=w) (base:=base) X).mono (show 1 <= 21 by decide)
  have G_qtreeby:=ok_tree (P:=P) (w:=w) (base:=base) X 20
  refine X.F_qgrown.okE sc_qgrown (fun vs H Q E h=>?_) (fun cdv A outer s H vs Q E hr h=>?_)
  · obtain⟨_,_,_,_,_,rfl,_⟩:=h
    rfl
  obtain⟨g,a,us,rs,n,rfl,ha,hrs,ok,hn,q,qe⟩:=h
  refine⟨_,(qss_cons (qs_expr (qe_call G_qcheckgrowth hr rfl X.m_qcheckgrowth X.F_qcheckgrowth.kp X.b_qcheckgrowth .nil pass_on (qaN (qv 1) (qaN (qv 2) qa_nil)))) (qss_one (qs_ret (qe_call G_qtreeby hr rfl X.m_qtreeby X.F_qtreeby.kp X.b_qtreeby .nil pass0 (qaN (qv 1) (qaN (qv 2) qa_nil)))))),?_⟩
  refine⟨_,rfl,_,rfl,a,us,rs,n,rfl,ha,hrs,ok,hn,fun H' s' nb=>?_,fun H' s' b=>qe H' s' b⟩
  refine⟨_,rfl,_,rfl,a,us,rs,n,rfl,s' _ _ ha,hrs.imp fun _ _ h=>RwIs.same s' h,ok,hn,?_,fun v H2 s2 gt=>q v H2 (s'.trans s2) nb gt⟩
  by_cases h:(dps rs).getD n 0 <= 20
  · exact h
  · exact absurd (.inr (by omega)) nb
end
end K35
namespace K35
open PySem L2 TR
open TM
abbrev Vl:=Int × Str × Int × Str
def VlIs (H:Hp) (x:Vl) (v:V):Prop:=∃ t,v=.ref t/\H t=some (.tup [.int x.1,.str x.2.1,.int x.2.2.1,.str x.2.2.2])
theorem VlIs.same {H H':Hp} (e:SameT H H') {x:Vl} {v:V} (h:VlIs H x v):VlIs H' x v:=let ⟨t,q,h⟩:=h;⟨t,q,e _ _ h⟩
structure SgG (s:Sg):Prop where
  ld:s.dn.length <= 2
  lu:s.up.length <= 2
  nd:∀ p ∈ s.dn,∀ q ∈ s.up,p.1 ≠ q.1
  kd:∀ p ∈ s.dn++s.up,p.2 ∈ kinds3
theorem L2R.at {α:Type} {R:α->V->Prop}:∀ {as:List α} {vs:List V} {i:Nat} {a:α},L2R R as vs->as[i]?=some a->∃ v,vs[i]?=some v/\R a v
  | _,_,i,a,.nil,h=>by simp at h
  | _,_,0,a,.cons x y,h=>by simp at h;subst h;exact⟨_,rfl,x⟩
  | _,_,i+1,a,.cons x y,h=>by
    obtain⟨v,h1,h2⟩:=L2R.at (i:=i) y (by simpa using h)
    exact⟨v,by simpa using h1,h2⟩
noncomputable def sideV (k:Nat) (s:Sg) (b:Nat):List Vl:=(if b=0 then s.dn else s.up).map fun p=>((k:Int),p.1,(b:Int),p.2)
noncomputable def vlF (k:Nat):List Sg->List Vl
  | []=>[]
  | s::r=>sideV k s 0++sideV k s 1++vlF (k+1) r
theorem vlF_snoc:∀ (ss:List Sg) (k:Nat) (s:Sg),vlF k (ss++[s])=vlF k ss++(sideV (k+ss.length) s 0++sideV (k+ss.length) s 1)
  | [],k,s=>by simp[vlF]
  | x::ss,k,s=>by
    rw[List.cons_append,vlF,vlF,vlF_snoc ss (k+1) s,List.append_assoc,List.append_assoc,List.append_assoc,List.length_cons]
    have e:k+1+ss.length=k+(ss.length+1):=by omega
    rw[e]
structure AtS (sg:List Sg) (at_:List Nat) (ss:List Sg):Prop where
  l:ss.length=at_.length
  e:∀ (i:Nat) (n:Nat),at_[i]?=some n->∃ s,sg[n]?=some s/\ss[i]?=some s
noncomputable def atV (at_:List Nat):List V:=at_.map fun (n:Nat)=>V.int (n:Int)
def spValues:Sp:=fun vs H Q _=>∃ (a l:Addr) (us:List V) (sg ss:List Sg) (at_:List Nat),vs=[.ref a,.ref l]/\H a=some (.tup us)/\L2R (SgIs H) sg us/\H l=some (.lst (atV at_))/\AtS sg at_ ss/\at_.length <= 10/\(∀ s ∈ sg,SgG s) /\
  ∀ (D:Addr) (xs:List V) (H':Hp),Same H H'->H D=none->H' D=some (.lst xs)->L2R (VlIs H') (vlF 0 ss) xs->Q (.ref D) H'
section
variable {P:Program} {w:World} {K:PySem.W.Frag} {mg:Str->Option Value} {base:Heap} {T:Adr}
theorem ok_values (X:Tx K mg T):FnOk P w K mg base CX0 1 T.qvalues T.d_qvalues ["_law_signs_here", "_law_at"] spValues:=by
  refine X.F_qvalues.okQ sc_qvalues (fun vs H Q E h=>?_) (fun cdv A outer s H vs Q E hr h=>?_)
  · obtain⟨_,_,_,_,_,_,rfl,_⟩:=h
    rfl
  obtain⟨a,l,us,sg,ss,at_,rfl,ha,hus,hl,ats,l10,gd,q⟩:=h
  refine⟨_,(qss_cons (qs_set (i:=2) sc_qvalues.nd rfl (Or.inl rfl) (qe_lst qa_nil)) (qss_cons (qs_for PassesOwn.never rfl (qi_range1 rfl X.z_range (qaK (qe_callB call_len_seq rfl X.z_len PySem.boot_len (qaN (qv 1) qa_nil)) qa_nil)) (qg_name (i:=3) sc_qvalues.nd rfl (Or.inl rfl)) (qss_one (qs_for PassesOwn.never rfl (qi_range1 rfl X.z_range (qaC qe_int qa_nil)) (qg_name (i:=4) sc_qvalues.nd rfl (Or.inl rfl)) (qss_one (qs_for PassesOwn.never rfl (qi_tup (qe_ix ix_tup (qe_ix ix_tup (qv 0) (qe_ix ix_list (qv 1) (qv 3) (fun _ _=>rfl)) (fun _ _=>rfl)) (qe_op op_add qe_int (qv 4)) (fun _ _=>rfl))) (qg_tup rfl (qgs_cons (qg_name (i:=5) sc_qvalues.nd rfl (Or.inl rfl)) (qgs_cons (qg_name (i:=6) sc_qvalues.nd rfl (Or.inl rfl)) qgs_nil))) (qss_one (qs_expr (qe_bm PySem.F.plainAttrs_list PySem.F.slot_list_append PySem.F.type_list_append mt_append (qv 2) (qaT (qe_tup (qaN (qv 3) (qaN (qv 5) (qaN (qv 4) (qaN (qv 6) qa_nil))))) qa_nil))))))))) (qss_one (qs_ret (qv 2))))),?_⟩
  dsimp only[cxOf]
  have lss:=ats.l
  refine⟨(by show 0 <= sizeLine;decide),fun D hD=>?_⟩
  have s0:=same_new hD (.lst [])
  have nl:l ≠ D:=fun z=>by rw[z,hD] at hl;cases hl
  have lat:(atV at_).length=at_.length:=by unfold atV;rw[List.length_map]
  refine⟨_,rfl,l,_,rfl,.inl (SqL.of (s0 _ _ hl)),_,rfl,by omega,by omega,?_⟩
  refine for_range (n:=((atV at_).length:Int).toNat) (fun i σ H'=>∃ (xs:List V) (x3 x4 x5 x6:Option V),σ=[some (.ref a),some (.ref l),some (.ref D),x3,x4,x5,x6]/\Same H H'/\H' D=some (.lst xs)/\L2R (VlIs H') (vlF 0 (ss.take i)) xs/\xs.length <= 4 * i) ⟨[],none,none,none,none,rfl,s0,upd_same,.nil,Nat.zero_le _⟩ ?_ ?_
  · rintro i σ H' hi ⟨xs,x3,x4,x5,x6,rfl,sm,hD',hxs,lxs⟩
    have hi:i < at_.length:=by omega
    obtain⟨n,hn⟩ : ∃ n,at_[i]?=some n:=⟨_,List.getElem?_eq_getElem hi⟩
    obtain⟨s,hs,hss⟩:=ats.e i n hn
    have gs:=gd s (List.mem_of_getElem? hs)
    have ltk:(ss.take i).length=i:=by rw[List.length_take];omega
    have e0:(0+(i:Int))=(i:Int):=by omega
    obtain⟨v,hv,hsv⟩:=L2R.at hus hs
    obtain⟨p,da,ua,dus,uus,rfl,hp,hda,hdn,hua,hup⟩:=hsv
    refine⟨_,rfl,(by decide),(by decide),?_⟩
    refine for_range (n:=2) (fun b σ H2=>∃ (ys:List V) (y4 y5 y6:Option V),σ=[some (.ref a),some (.ref l),some (.ref D),some (.int (i:Int)),y4,y5,y6]/\Same H H2/\H2 D=some (.lst ys)/\L2R (VlIs H2) (vlF 0 (ss.take i)++(List.range b).flatMap (sideV i s)) ys/\ys.length <= 4 * i+2 * b/\b <= 2) ⟨xs,_,_,_,by rw[e0];rfl,sm,hD',by simpa using hxs,by omega,by decide⟩ ?_ ?_
    · rintro b σ H2 hb ⟨ys,y4,y5,y6,rfl,sm2,hD2,hys,lys,b2⟩
      have hp2:=sm2 _ _ hp
      obtain⟨ra,rus,rps,hra,hrp,hat,lrp,erp⟩ : ∃ (ra:Addr) (rus:List V) (rps:List (Str × Str)),H ra=some (.tup rus)/\L2R (PrIs H) rps rus/\atI [V.str s.nm,V.ref da,V.ref ua] (1+(0+(b:Int)))=some (.ref ra)/\rps.length <= 2/\sideV i s b=rps.map fun p=>((i:Int),p.1,(b:Int),p.2):=by
        have:b=0\/b=1:=by omega
        rcases this with rfl | rfl
        · exact⟨da,dus,s.dn,hda,hdn,rfl,gs.ld,rfl⟩
        · exact⟨ua,uus,s.up,hua,hup,rfl,gs.lu,rfl⟩
      have lr:=hrp.len
      refine⟨_,rfl,_,rfl,_,rfl,l,_,_,.int (n:Int),rfl,rfl,SqL.of (sm2 _ _ hl),atI_nat (by unfold atV;rw[List.getElem?_map,hn];rfl),a,_,_,.ref p,rfl,rfl,SqT.of (sm2 _ _ ha),atI_nat hv,_,rfl,_,_,rfl,rfl,p,_,_,.ref ra,rfl,rfl,SqT.of hp2,hat,ra,rfl,⟨_,SqT.of (sm2 _ _ hra)⟩,?_⟩
      refine for_tup (K:=K) (a:=ra) (xs:=rus) (fun j σ H3=>∃ (zs:List V) (z5 z6:Option V),σ=[some (.ref a),some (.ref l),some (.ref D),some (.int (i:Int)),some (.int (0+(b:Int))),z5,z6]/\Same H H3/\H3 D=some (.lst zs)/\L2R (VlIs H3) (vlF 0 (ss.take i)++(List.range b).flatMap (sideV i s)++(rps.take j).map fun p=>((i:Int),p.1,(b:Int),p.2)) zs/\zs.length <= 4 * i+2 * b+j) ⟨ys,_,_,rfl,sm2,hD2,by simpa using hys,by omega⟩ (fun j σ H3 _ ⟨_,_,_,_,sm3,_⟩=>SqT.of (sm3 _ _ hra)) ?_ ?_
      · rintro j v3 σ H3 hv3 ⟨zs,z5,z6,rfl,sm3,hD3,hzs,lzs⟩
        obtain⟨⟨nm,kd⟩,hnk,q3,rfl,hq3⟩:=hrp.get hv3
        have hjl:=lt_of_some hnk
        refine⟨q3,_,rfl,SqT.of (sm3 _ _ hq3),rfl,_,_,rfl,_,_,rfl,rfl,?_⟩
        refine⟨_,rfl,.inl ⟨rfl,_,SqL.of hD3⟩,_,rfl,_,rfl,_,rfl,_,rfl,(by show 4 <= sizeLine;decide),fun t ht=>?_⟩
        have s4:=same_new ht (.tup [.int (i:Int),.str nm,.int (0+(b:Int)),.str kd])
        have hD4:=s4 _ _ hD3
        refine⟨D,zs,_,rfl,rfl,hD4,fitsL (by omega),zs++[.ref t],_,_,rfl,same_upd hD (sm3.trans s4),upd_same,?_,by rw[List.length_append,List.length_singleton];omega⟩
        rw[take_snocA hnk,List.map_append,<- List.append_assoc]
        have TL:=sameT_lst (ys:=zs++[.ref t]) hD4
        refine (hzs.imp fun _ _ h=>VlIs.same ((sameT s4).trans TL) h).snoc ⟨t,rfl,TL _ _ ?_⟩
        rw[upd_same,show (0+(b:Int))=(b:Int) by omega]
      · rintro σ H3 ⟨zs,z5,z6,rfl,sm3,hD3,hzs,lzs⟩
        rw[show rps.take rus.length=rps from List.take_of_length_le (by omega)] at hzs
        refine⟨zs,_,_,_,rfl,sm3,hD3,?_,by omega,by omega⟩
        rw[List.range_succ,List.flatMap_append,<- List.append_assoc]
        have e1:[b].flatMap (sideV i s)=rps.map fun p=>((i:Int),p.1,(b:Int),p.2):=by rw[<- erp];simp
        rw[e1]
        exact hzs
    · rintro σ H2 ⟨ys,y4,y5,y6,rfl,sm2,hD2,hys,lys,b2⟩
      refine⟨ys,_,_,_,_,rfl,sm2,hD2,?_,by omega⟩
      rw[take_snocA hss,vlF_snoc,ltk,Nat.zero_add]
      have e:(List.range 2).flatMap (sideV i s)=sideV i s 0++sideV i s 1:=by
        show (List.range 2).flatMap _=_
        rw[show List.range 2=[0,1] from rfl]
        simp
      rw[<- e]
      exact hys
  · rintro σ H' ⟨xs,x3,x4,x5,x6,rfl,sm,hD',hxs,lxs⟩
    rw[List.take_of_length_le (by omega)] at hxs
    exact⟨_,rfl,q D xs H' sm hD hD' hxs⟩
end
end K35
namespace K35
open PySem L2 TR
open TM
theorem comp_gL {α:Type} {B:Hp->α->V->Prop} {K:PySem.W.Frag} {a:Addr} {us:List V} {G:List α} {js:List Nat} {tc:TT} {te:TE} {σ:St} {Q:VK} {D:Addr} {H1:Hp} {R:Hp->α->V->Prop} (sB:∀ H H' f v,SameT H H'->B H f v->B H' f v) (st:∀ H H' f v,SameT H H'->R H f v->R H' f v) (pr:α->Bool) (hz:us.length < sizeLine) (ha:H1 a=some (.lst us)) (hus:L2R (B H1) G us) (hD:H1 D=none)
    (hc:∀ f v H,f ∈ G->B H f v->Same H1 H->∀ Q':Bool->Hp->Prop,(∀ H',Same H H'->Q' (pr f) H')->tc (some v::compS js σ) H Q')
    (he:∀ f v H,f ∈ G->B H f v->Same H1 H->∀ Q':VK,(∀ y H',Same H H'->R H' f y->Q' y H')->te (some v::compS js σ) H Q')
    (hq:∀ ys H',Same H1 H'->H' D=some (.lst ys)->L2R (R H') (G.filter pr) ys->Q (.ref D) H'):CompW (Itl K a) js tc te σ Q D H1:=by
  have lus:=hus.len
  refine⟨fun i m acc H=>m=us.length - i/\i <= us.length/\Same H1 H/\H D=some (.lst acc)/\L2R (R H) ((G.take i).filter pr) acc,⟨us.length,by simp,Nat.zero_le _,same_new hD _,upd_same,.nil⟩,?_⟩
  rintro i m acc H ⟨hm,hi,sm,hDi,hr⟩
  have la:=hr.len
  have lf:((G.take i).filter pr).length <= i:=Nat.le_trans (List.length_filter_le _ _) (by rw[List.length_take];omega)
  refine⟨hDi,by omega,?_⟩
  by_cases hlt:i < us.length
  · refine .inr ⟨⟨us,us[i],SqL.of (sm _ _ ha),by simp[hlt]⟩,fun x H' y=>?_⟩
    obtain⟨e,y⟩:=y
    subst e
    have hx:=y us (SqL.of (sm _ _ ha))
    obtain⟨f,hf,hfi⟩:=hus.get hx
    have fm:=List.mem_of_getElem? hf
    refine hc f x _ fm (sB _ _ _ _ (sameT sm) hfi) sm _ fun H2 s2=>?_
    have hD2:=s2 _ _ hDi
    have et:(G.take (i+1)).filter pr=(G.take i).filter pr++[f].filter pr:=by rw[take_snocA hf,List.filter_append]
    cases hp:pr f with
    | true=>
      rw[if_pos rfl]
      refine he f x H2 fm (sB _ _ _ _ (sameT (sm.trans s2)) hfi) (sm.trans s2) _ fun y H3 s3 hR=>⟨s3 _ _ hD2,us.length - (i+1),by omega,rfl,by omega,same_upd hD (sm.trans (s2.trans s3)),upd_same,?_⟩
      have tD:=sameT_lst (ys:=acc++[y]) (s3 _ _ hD2)
      rw[et,List.filter_cons_of_pos hp,List.filter_nil]
      exact (hr.imp fun f v h=>st _ _ f v ((sameT (s2.trans s3)).trans tD) h).snoc (st _ _ _ _ tD hR)
    | false=>
      rw[if_neg (by simp)]
      refine⟨us.length - (i+1),by omega,rfl,by omega,sm.trans s2,hD2,?_⟩
      rw[et,List.filter_cons_of_neg (by simp[hp]),List.filter_nil,List.append_nil]
      exact hr.imp fun f v h=>st _ _ f v (sameT s2) h
  · have e:i=us.length:=by omega
    subst e
    rw[lus,List.take_length] at hr
    exact .inl ⟨⟨us,SqL.of (sm _ _ ha),Nat.le_refl _⟩,hq acc H sm hDi hr⟩
theorem comp_gF {α:Type} {B:Hp->α->V->Prop} {K:PySem.W.Frag} {a:Addr} {us:List V} {G:List α} {js:List Nat} {tc:TT} {te:TE} {σ:St} {Q:VK} {D:Addr} {H1:Hp} {R:Hp->α->V->Prop} (sB:∀ H H' f v,SameT H H'->B H f v->B H' f v) (st:∀ H H' f v,SameT H H'->R H f v->R H' f v) (pr:α->Bool) (hz:us.length < sizeLine) (ha:H1 a=some (.tup us)) (hus:L2R (B H1) G us) (hD:H1 D=none)
    (hc:∀ f v H,f ∈ G->B H f v->Same H1 H->∀ Q':Bool->Hp->Prop,(∀ H',Same H H'->Q' (pr f) H')->tc (some v::compS js σ) H Q')
    (he:∀ f v H,f ∈ G->B H f v->Same H1 H->∀ Q':VK,(∀ y H',Same H H'->R H' f y->Q' y H')->te (some v::compS js σ) H Q')
    (hq:∀ ys H',Same H1 H'->H' D=some (.lst ys)->L2R (R H') (G.filter pr) ys->Q (.ref D) H'):CompW (Itt K a) js tc te σ Q D H1:=by
  have lus:=hus.len
  refine⟨fun i m acc H=>m=us.length - i/\i <= us.length/\Same H1 H/\H D=some (.lst acc)/\L2R (R H) ((G.take i).filter pr) acc,⟨us.length,by simp,Nat.zero_le _,same_new hD _,upd_same,.nil⟩,?_⟩
  rintro i m acc H ⟨hm,hi,sm,hDi,hr⟩
  have la:=hr.len
  have lf:((G.take i).filter pr).length <= i:=Nat.le_trans (List.length_filter_le _ _) (by rw[List.length_take];omega)
  refine⟨hDi,by omega,?_⟩
  by_cases hlt:i < us.length
  · refine .inr ⟨⟨us,us[i],SqT.of (sm _ _ ha),by simp[hlt]⟩,fun x H' y=>?_⟩
    obtain⟨e,y⟩:=y
    subst e
    have hx:=y us (SqT.of (sm _ _ ha))
    obtain⟨f,hf,hfi⟩:=hus.get hx
    have fm:=List.mem_of_getElem? hf
    refine hc f x _ fm (sB _ _ _ _ (sameT sm) hfi) sm _ fun H2 s2=>?_
    have hD2:=s2 _ _ hDi
    have et:(G.take (i+1)).filter pr=(G.take i).filter pr++[f].filter pr:=by rw[take_snocA hf,List.filter_append]
    cases hp:pr f with
    | true=>
      rw[if_pos rfl]
      refine he f x H2 fm (sB _ _ _ _ (sameT (sm.trans s2)) hfi) (sm.trans s2) _ fun y H3 s3 hR=>⟨s3 _ _ hD2,us.length - (i+1),by omega,rfl,by omega,same_upd hD (sm.trans (s2.trans s3)),upd_same,?_⟩
      have tD:=sameT_lst (ys:=acc++[y]) (s3 _ _ hD2)
      rw[et,List.filter_cons_of_pos hp,List.filter_nil]
      exact (hr.imp fun f v h=>st _ _ f v ((sameT (s2.trans s3)).trans tD) h).snoc (st _ _ _ _ tD hR)
    | false=>
      rw[if_neg (by simp)]
      refine⟨us.length - (i+1),by omega,rfl,by omega,sm.trans s2,hD2,?_⟩
      rw[et,List.filter_cons_of_neg (by simp[hp]),List.filter_nil,List.append_nil]
      exact hr.imp fun f v h=>st _ _ f v (sameT s2) h
  · have e:i=us.length:=by omega
    subst e
    rw[lus,List.take_length] at hr
    exact .inl ⟨⟨us,SqT.of (sm _ _ ha),Nat.le_refl _⟩,hq acc H sm hDi hr⟩
noncomputable def dueB (x:Vl):Bool:=decide ((x.1=0)=(x.2.2.1=1))
theorem due_bl (x:Vl):decide (V.bl (decide (V.int x.1=V.int 0))=V.bl (decide (V.int x.2.2.1=V.int 1)))=dueB x:=by
  unfold dueB
  by_cases h:x.1=0
  · by_cases g:x.2.2.1=1
    · simp[h,g]
    · simp[h,g]
  · by_cases g:x.2.2.1=1
    · simp[h,g]
    · simp[h,g]
def spDue:Sp:=fun vs H Q _=>∃ (x:Vl) (v:V),vs=[v]/\VlIs H x v/\Q (.bl (dueB x)) H
section
variable {P:Program} {w:World} {K:PySem.W.Frag} {mg:Str->Option Value} {base:Heap} {T:Adr}
theorem ok_due (X:Tx K mg T):FnOk P w K mg base CX0 1 T.qdue T.d_qdue ["_law_one"] spDue:=by
  refine X.F_qdue.okQ sc_qdue (fun vs H Q E h=>?_) (fun cdv A outer s H vs Q E hr h=>?_)
  · obtain⟨_,_,rfl,_⟩:=h
    rfl
  obtain⟨x,v,rfl,⟨p,rfl,hp⟩,q⟩:=h
  refine⟨_,(qss_one (qs_ret (qe_cmpR op_eq (qe_cmpR op_eq (qe_ix ix_tup (qv 0) qe_int (fun _ _=>rfl)) qe_int (nomark _)) (qe_cmpR op_eq (qe_ix ix_tup (qv 0) qe_int (fun _ _=>rfl)) qe_int (nomark _)) (nomark _)))),?_⟩
  dsimp only[cxOf]
  rw[<- due_bl] at q
  refine⟨_,rfl,p,_,0,.int x.1,rfl,rfl,SqT.of hp,rfl,rfl,_,rfl,p,_,2,.int x.2.2.1,rfl,rfl,SqT.of hp,rfl,rfl,rfl,q⟩
end
noncomputable def seatI (x:Vl):Int:=if x.1=0 then 99 * x.2.2.1 else 2 * x.1+x.2.2.1
def PlOk (one e:Vl):Prop:=one.1=0->one.2.2.1=1->e.1=0->e.2.2.1 < 1\/1 < e.2.2.1
theorem seat_ix (x:Vl):atI [V.int (2 * x.1+x.2.2.1),V.int (99 * x.2.2.1)] (if decide (V.int x.1=V.int 0)=true then 1 else 0)=some (V.int (seatI x)):=by
  unfold seatI
  by_cases h:x.1=0
  · rw[if_pos h,if_pos (decide_eq_true (by rw[h]))]
    rfl
  · rw[if_neg h,if_neg (by simp[h])]
    rfl
noncomputable def plB (m:Int) (one e:Vl):Bool:=if m < 2 then decide (seatI e < seatI one) else !dueB e
theorem plB_ok {m:Int} {one e:Vl} (h:plB m one e=true):PlOk one e:=by
  intro h1 h2 h3
  unfold plB at h
  split at h
  · have:=of_decide_eq_true h
    unfold seatI at this
    rw[if_pos h1,if_pos h3,h2] at this
    omega
  · unfold dueB at h
    rw[h3] at h
    by_cases g:e.2.2.1=1
    · simp[g] at h
    · omega
def spPool:Sp:=fun vs H Q _=>∃ (l:Addr) (us:List V) (es:List Vl) (one:Vl) (v:V) (m c:Int),vs=[.ref l,v,.int m,.int c]/\H l=some (.lst us)/\L2R (VlIs H) es us/\VlIs H one v/\us.length <= 100/\0 <= m/\m < 3 /\
  ∀ (D:Addr) (ys:List V) (H':Hp),Same H H'->H D=none->H' D=some (.lst ys)->L2R (VlIs H') (es.filter (plB m one)) ys->Q (.ref D) H'
section
variable {P:Program} {w:World} {K:PySem.W.Frag} {mg:Str->Option Value} {base:Heap} {T:Adr}
theorem ok_pool (X:Tx K mg T):FnOk P w K mg base CX0 2 T.qpool T.d_qpool ["_law_some", "_law_one", "_law_mode", "_law_cell"] spPool:=by
  have G_qdue:=ok_due (P:=P) (w:=w) (base:=base) X
  refine X.F_qpool.okQ sc_qpool (fun vs H Q E h=>?_) (fun cdv A outer s H vs Q E hr h=>?_)
  · obtain⟨_,_,_,_,_,_,_,rfl,_⟩:=h
    rfl
  obtain⟨l,us,es,one,v,m,c,rfl,hl,hes,hone,l100,hm0,hm,q⟩:=h
  refine⟨_,(qss_cons (qs_if (qt_cmpR op_lt (qv 2) qe_int (nomark _)) (qss_cons (qs_set (i:=4) sc_qpool.nd rfl (Or.inr rfl) (qe_ix ix_list (qe_lst (qaB (qe_op op_add (qe_op op_mul qe_int (qe_ix ix_tup (qv 1) qe_int (fun _ _=>rfl))) (qe_ix ix_tup (qv 1) qe_int (fun _ _=>rfl))) (qaB (qe_op op_mul qe_int (qe_ix ix_tup (qv 1) qe_int (fun _ _=>rfl))) qa_nil))) (qe_callTy call_int1 rfl X.z_int PyProof.Rows.boot_int (qaM (qe_cmpR op_eq (qe_ix ix_tup (qv 1) qe_int (fun _ _=>rfl)) qe_int (nomark _)) qa_nil)) (fun _ _=>rfl))) (qss_one (qs_ret (qe_comp (ys:=["_law_seat"]) (js:=[4]) rfl rfl (qi_list (qv 0)) (fun _ _ _ _ _=>qif_one (qt_cmpR op_lt (qe_ix (ix_listC (K:=K) rfl) (qe_lst (qaB (qe_op op_add (qe_op op_mul qe_int (qe_ix (ix_tupC (K:=K) rfl) (qv 0) qe_int (fun _ _=>rfl))) (qe_ix (ix_tupC (K:=K) rfl) (qv 0) qe_int (fun _ _=>rfl))) (qaB (qe_op op_mul qe_int (qe_ix (ix_tupC (K:=K) rfl) (qv 0) qe_int (fun _ _=>rfl))) qa_nil))) (qe_callTy call_int1 rfl X.z_int PyProof.Rows.boot_int (qaM (qe_cmpR op_eq (qe_ix (ix_tupC (K:=K) rfl) (qv 0) qe_int (fun _ _=>rfl)) qe_int (nomark _)) qa_nil)) (fun _ _=>rfl)) (qv 1) (nomark _))) (fun _ _ _ _ _=>(qv 0)))))) qss_nil) (qss_cons (qs_if (qw_pt (qw_or (qt_cmpR op_eq (qv 2) qe_int (nomark _)) (qw_or1 (qt_cmpR op_gt (qe_op op_mod (qv 3) qe_int) qe_int (nomark _))))) (qss_one (qs_ret (qe_comp (ys:=[]) (js:=[]) rfl rfl (qi_list (qv 0)) (fun _ _ _ _ _=>qif_one (qt_not (qt_val (qe_call G_qdue hr rfl X.m_qdue X.F_qdue.kp X.b_qdue .nil pass0 (qaN (qv 0) qa_nil))))) (fun _ _ _ _ _=>(qv 0))))) qss_nil) (qss_one (qs_ret (qv 0))))),?_⟩
  dsimp only[cxOf]
  obtain⟨p,rfl,hp⟩:=id hone
  refine⟨_,rfl,_,_,rfl,rfl,_,rfl,iteDd (fun h2=>?_) (fun h2=>?_)⟩
  · refine⟨_,rfl,p,_,0,.int one.1,rfl,rfl,SqT.of hp,rfl,_,_,rfl,rfl,.inl ⟨by decide,by decide⟩,_,rfl,p,_,2,.int one.2.2.1,rfl,rfl,SqT.of hp,rfl,_,_,rfl,rfl,_,rfl,p,_,2,.int one.2.2.1,rfl,rfl,SqT.of hp,rfl,_,_,rfl,rfl,.inl ⟨by decide,by decide⟩,(by show 2 <= sizeLine;decide),fun L hL=>?_⟩
    have s0:=same_new hL (.lst [.int (2 * one.1+one.2.2.1),.int (99 * one.2.2.1)])
    refine⟨_,rfl,p,_,0,.int one.1,rfl,rfl,SqT.of (s0 _ _ hp),rfl,rfl,.inr ⟨_,rfl,L,_,_,.int (seatI one),rfl,rfl,SqL.of upd_same,seat_ix one,?_⟩⟩
    have e2:plB m one=fun e=>decide (seatI e < seatI one):=funext fun e=>by unfold plB;rw[if_pos h2]
    rw[e2] at q
    refine⟨_,rfl,l,rfl,⟨_,SqL.of (s0 _ _ hl)⟩,fun D hD=>?_⟩
    refine comp_gL (K:=K) (B:=VlIs) (a:=l) (us:=us) (G:=es) (R:=VlIs) (fun _ _ _ _ e h=>VlIs.same e h) (fun _ _ _ _ e h=>VlIs.same e h) (fun e=>decide (seatI e < seatI one)) (fitsL (by omega)) (s0 _ _ hl) (hes.imp fun _ _ h=>VlIs.same (sameT s0) h) hD (fun x v H2 hx hv s2 Q' k=>?_) (fun x v H2 hx hv s2 Q' k=>⟨_,rfl,k _ _ (Same.refl _) hv⟩) (fun ys H2 s2 hD2 hys=>q D ys H2 (s0.trans s2) (s0.free hD) hD2 hys)
    obtain⟨t,rfl,ht⟩:=hv
    refine⟨_,rfl,t,_,0,.int x.1,rfl,rfl,SqT.of ht,rfl,_,_,rfl,rfl,.inl ⟨by decide,by decide⟩,_,rfl,t,_,2,.int x.2.2.1,rfl,rfl,SqT.of ht,rfl,_,_,rfl,rfl,_,rfl,t,_,2,.int x.2.2.1,rfl,rfl,SqT.of ht,rfl,_,_,rfl,rfl,.inl ⟨by decide,by decide⟩,(by show 2 <= sizeLine;decide),fun L2 hL2=>?_⟩
    have s3:=same_new hL2 (.lst [.int (2 * x.1+x.2.2.1),.int (99 * x.2.2.1)])
    exact⟨_,rfl,t,_,0,.int x.1,rfl,rfl,SqT.of (s3 _ _ ht),rfl,rfl,.inr ⟨_,rfl,L2,_,_,.int (seatI x),rfl,rfl,SqL.of upd_same,seat_ix x,_,rfl,_,_,rfl,rfl,_,rfl,k _ s3⟩⟩
  · have e2:plB m one=fun e=>!dueB e:=funext fun e=>by unfold plB;rw[if_neg h2]
    rw[e2] at q
    have e3:m=2:=by omega
    subst e3
    refine⟨_,rfl,rfl,_,rfl,iteT ?_⟩
    refine⟨_,rfl,l,rfl,⟨_,SqL.of hl⟩,fun D hD=>?_⟩
    refine comp_gL (K:=K) (B:=VlIs) (a:=l) (us:=us) (G:=es) (R:=VlIs) (fun _ _ _ _ e h=>VlIs.same e h) (fun _ _ _ _ e h=>VlIs.same e h) (fun e=>!dueB e) (fitsL (by omega)) hl hes hD (fun x v H2 hx hv s2 Q' k=>?_) (fun x v H2 hx hv s2 Q' k=>⟨_,rfl,k _ _ (Same.refl _) hv⟩) (fun ys H2 s2 hD2 hys=>q D ys H2 s2 hD hD2 hys)
    exact⟨_,rfl,x,v,rfl,hv,_,rfl,k H2 (Same.refl _)⟩
end
end K35
namespace K35
open PySem L2 TR
open TM
def Kp (S:List Addr) (H H':Hp):Prop:=∀ b o,b ∉ S->H b=some o->H' b=some o
theorem Kp.refl (S:List Addr) (H:Hp):Kp S H H:=fun _ _ _ h=>h
theorem Kp.trans {S:List Addr} {H H1 H2:Hp} (a:Kp S H H1) (b:Kp S H1 H2):Kp S H H2:=fun c o n h=>b c o n (a c o n h)
theorem Kp.same {S:List Addr} {H H1 H2:Hp} (a:Kp S H H1) (b:Same H1 H2):Kp S H H2:=fun c o n h=>b c o (a c o n h)
theorem Kp.upd {S:List Addr} {H H1:Hp} {a:Addr} {o:HO} (h:Kp S H H1) (m:a ∈ S):Kp S H (upd H1 a o):=fun c u n e=>by
  have ne:c ≠ a:=fun z=>n (by rw[z];exact m)
  rw[upd_ne ne]
  exact h c u n e
theorem Kp.of {S:List Addr} {H H':Hp} (s:Same H H'):Kp S H H':=fun c o _ h=>s c o h
theorem Kp.T {S:List Addr} {H H':Hp} (h:Kp S H H') (m:∀ a ∈ S,∃ xs,H a=some (.lst xs)):SameT H H':=fun b xs e=>h b _ (fun z=>by
  obtain⟨ys,q⟩:=m b z
  rw[q] at e
  cases e) e
theorem Kp.free {S:List Addr} {H H':Hp} (h:Kp S H H') {a:Addr} (hn:H' a=none) (m:a ∉ S):H a=none:=by
  cases e:H a with
  | none=>rfl
  | some o=>rw[h a o m e] at hn;cases hn
theorem snoc_of {α:Type} {l:List α} (h:0 < l.length):∃ a x,l=a++[x]:=by
  cases e:l.reverse with
  | nil=>rw[List.reverse_eq_nil_iff.mp e] at h;exact absurd h (by simp)
  | cons x r=>exact⟨r.reverse,x,by rw[<- List.reverse_reverse l,e,List.reverse_cons]⟩
theorem pairs_nd {c:Int} {dn up:List (Str × Str)} (h1:∀ (j:Nat) p,dn[j]?=some p->p.1=wrd c j) (h2:∀ (j:Nat) p,up[j]?=some p->p.1=wrd c (2+(j:Int))) (l1:dn.length <= 2) (l2:up.length <= 2):((dn++up).map Prod.fst).Nodup:=by
  have key:∀ j x,((dn++up).map Prod.fst)[j]?=some x->∃ m:Int,x=wrd c m/\0 <= m/\m < 26/\(if j < dn.length then m=j else m=2+((j - dn.length:Nat):Int))/\j < dn.length+up.length:=fun j x hx=>by
    rw[List.getElem?_map] at hx
    cases e:(dn++up)[j]? with
    | none=>rw[e] at hx;cases hx
    | some p=>
      rw[e] at hx
      have hx:x=p.1:=(Option.some.inj hx).symm
      have hj:=lt_of_some e
      rw[List.length_append] at hj
      by_cases hlt:j < dn.length
      · rw[List.getElem?_append_left hlt] at e
        exact⟨j,by rw[hx,h1 j p e],by omega,by omega,by rw[if_pos hlt],hj⟩
      · rw[List.getElem?_append_right (by omega)] at e
        exact⟨2+((j - dn.length:Nat):Int),by rw[hx,h2 _ p e],by omega,by omega,by rw[if_neg hlt],hj⟩
  refine List.pairwise_iff_getElem.mpr fun i j hi hj hlt he=>?_
  obtain⟨m1,e1,a1,b1,c1,d1⟩:=key i _ (List.getElem?_eq_getElem hi)
  obtain⟨m2,e2,a2,b2,c2,d2⟩:=key j _ (List.getElem?_eq_getElem hj)
  rw[e1,e2] at he
  have:=wrd_inj a1 b1 a2 b2 he
  split at c1 <;> split at c2 <;> omega
def PrsI (near off:Int) (D:Addr) (H0:Hp) (i:Nat) (acc:List V) (H':Hp):Prop:=∃ prs:List (Str × Str),prs.length=i/\(∀ (j:Nat) p,prs[j]?=some p->p.1=wrd near (off+(j:Int))/\p.2 ∈ kinds3)/\L2R (PrIs H') prs acc/\Same H0 H'/\H' D=some (.lst acc)
theorem PrsI.step {near off:Int} {D:Addr} {H0 H':Hp} {i:Nat} {acc:List V} {kd:Str} {t:Addr} (h:PrsI near off D H0 i acc H') (hk:kd ∈ kinds3) (ht:H' t=none) (hD:H0 D=none):PrsI near off D H0 (i+1) (acc++[.ref t]) (upd (upd H' t (.tup [.str (wrd near (off+(i:Int))),.str kd])) D (.lst (acc++[.ref t]))):=by
  obtain⟨prs,l,e,r,s,d⟩:=h
  have s1:=same_new ht (.tup [.str (wrd near (off+(i:Int))),.str kd])
  have d1:=s1 _ _ d
  have nt:t ≠ D:=fun z=>by rw[z,d] at ht;cases ht
  refine⟨prs++[(wrd near (off+(i:Int)),kd)],by rw[List.length_append,l];rfl,fun j p hp=>?_,?_,same_upd hD (s.trans s1),upd_same⟩
  · by_cases hj:j < prs.length
    · rw[List.getElem?_append_left hj] at hp
      exact e j p hp
    · rw[List.getElem?_append_right (by omega)] at hp
      have hj0:j - prs.length=0:=by
        rcases Nat.eq_zero_or_pos (j - prs.length) with h | h
        · exact h
        · rw[List.getElem?_eq_none (by simp;omega)] at hp;cases hp
      rw[hj0] at hp
      have:j=i:=by omega
      subst this
      cases hp
      exact⟨rfl,hk⟩
  · have tD:SameT (upd H' t (.tup [.str (wrd near (off+(i:Int))),.str kd])) (upd (upd H' t (.tup [.str (wrd near (off+(i:Int))),.str kd])) D (.lst (acc++[.ref t]))):=sameT_lst d1
    exact (r.imp fun _ _ h=>PrIs.same ((sameT s1).trans tD) h).snoc ⟨t,rfl,tD _ _ upd_same⟩
noncomputable def kd3 (m:Int):Str:=if m=0 then "num" else if m=1 then "text" else "row"
theorem kd3_at {m:Int} (h0:0 <= m) (h1:m < 3):atI [V.str "num",V.str "text",V.str "row"] m=some (.str (kd3 m))/\kd3 m ∈ kinds3:=by
  have:m=0\/m=1\/m=2:=by omega
  rcases this with rfl | rfl | rfl
  · exact⟨rfl,by decide⟩
  · exact⟨rfl,by decide⟩
  · exact⟨rfl,by decide⟩
structure SgsG (sg:List Sg):Prop where
  g:∀ s ∈ sg,SgG s
  l1:1 <= sg.length
  l3:sg.length <= 3
def spSigns:Sp:=fun vs H Q _=>∃ (d:Addr) (cs:List Int) (n:Nat),vs=[.ref d,.int n]/\H d=some (.lst (cs.map V.int))/\1 <= n/\n <= 3/\20 <= cs.length/\cs.length <= 200/\(∀ c ∈ cs,0 <= c) /\
  ∀ (a:Addr) (us:List V) (sg:List Sg) (cs':List Int) (H':Hp),Kp [d] H H'->H' d=some (.lst (cs'.map V.int))->cs.length <= cs'.length+4->cs'.length <= 200->(∀ c ∈ cs',c ∈ cs)->H' a=some (.tup us)->L2R (SgIs H') sg us->SgsG sg->Q (.ref a) H'
section
variable {P:Program} {w:World} {K:PySem.W.Frag} {mg:Str->Option Value} {base:Heap} {T:Adr}
theorem ok_signs (X:Tx K mg T):FnOk P w K mg base CX0 2 T.qsigns T.d_qsigns ["_law_deck_here", "_law_many"] spSigns:=by
  have G_qword:=ok_word (P:=P) (w:=w) (base:=base) X
  refine X.F_qsigns.okQ sc_qsigns (fun vs H Q E h=>?_) (fun cdv A outer s H vs Q E hr h=>?_)
  · obtain⟨_,_,_,rfl,_⟩:=h
    rfl
  obtain⟨d,cs,n,rfl,hd,n1,n3,l20,l90,nn,q⟩:=h
  refine⟨_,(qss_cons (qs_set (i:=2) sc_qsigns.nd rfl (Or.inl rfl) (qe_bm0 PySem.F.plainAttrs_list PySem.F.slot_list_pop PySem.F.type_list_pop mt_pop (qv 0))) (qss_cons (qs_set (i:=3) sc_qsigns.nd rfl (Or.inr rfl) (qe_ix ix_list (qe_lst (qaC qe_str (qaC qe_str (qaC qe_str qa_nil)))) (qe_op op_mod (qv 2) qe_int) (fun _ _=>rfl))) (qss_cons (qs_set (i:=4) sc_qsigns.nd rfl (Or.inl rfl) (qe_lst qa_nil)) (qss_cons (qs_for PassesOwn.never rfl (qi_range1 rfl X.z_range (qaN (qv 1) qa_nil)) (qg_name (i:=5) sc_qsigns.nd rfl (Or.inl rfl)) (qss_cons (qs_set (i:=6) sc_qsigns.nd rfl (Or.inl rfl) (qe_bm0 PySem.F.plainAttrs_list PySem.F.slot_list_pop PySem.F.type_list_pop mt_pop (qv 0))) (qss_cons (qs_set (i:=7) sc_qsigns.nd rfl (Or.inr rfl) (qe_ix ix_list (qe_lst (qaN (qv 6) (qaN (qv 2) qa_nil))) (qe_op op_mod (qe_op op_fdiv (qv 2) qe_int) qe_int) (fun _ _=>rfl))) (qss_cons (qs_set (i:=8) sc_qsigns.nd rfl (Or.inl rfl) (qe_callTy call_tuple_of rfl X.z_tuple PyProof.Rows.boot_tuple (qaE (qe_comp (ys:=["_law_kind", "_law_own"]) (js:=[3,7]) rfl rfl (qi_range1 rfl X.z_range (qaS (qe_ix ix_list (qe_lst (qaC qe_int (qaC qe_int (qaC qe_int (qaC qe_int (qaC qe_int (qaC qe_int qa_nil))))))) (qe_op op_mod (qv 6) qe_int) (fun _ _=>rfl)) qa_nil)) (fun _ _ _ _ _=>qif_nil) (fun _ _ _ _ _=>(qe_tup (qaK (qe_call G_qword hr rfl X.m_qword X.F_qword.kp X.b_qword .nil pass0 (qaB (qe_op op_fdiv (qv 2) qe_int) (qaN (qv 0) qa_nil))) (qaN (qv 1) qa_nil))))) qa_nil))) (qss_cons (qs_set (i:=9) sc_qsigns.nd rfl (Or.inl rfl) (qe_callTy call_tuple_of rfl X.z_tuple PyProof.Rows.boot_tuple (qaE (qe_comp (ys:=["_law_kind", "_law_own"]) (js:=[3,7]) rfl rfl (qi_range1 rfl X.z_range (qaS (qe_ix ix_list (qe_lst (qaC qe_int (qaC qe_int (qaC qe_int (qaC qe_int (qaC qe_int qa_nil)))))) (qe_op op_mod (qe_op op_fdiv (qv 6) qe_int) qe_int) (fun _ _=>rfl)) qa_nil)) (fun _ _ _ _ _=>qif_nil) (fun _ _ _ _ _=>(qe_tup (qaK (qe_call G_qword hr rfl X.m_qword X.F_qword.kp X.b_qword .nil pass0 (qaB (qe_op op_fdiv (qv 2) qe_int) (qaB (qe_op op_add qe_int (qv 0)) qa_nil))) (qaN (qv 1) qa_nil))))) qa_nil))) (qss_one (qs_expr (qe_bm PySem.F.plainAttrs_list PySem.F.slot_list_append PySem.F.type_list_append mt_append (qv 4) (qaT (qe_tup (qaK (qe_call G_qword hr rfl X.m_qword X.F_qword.kp X.b_qword .nil pass0 (qaB (qe_op op_fdiv (qv 2) qe_int) (qaN (qv 5) qa_nil))) (qaN (qv 8) (qaN (qv 9) qa_nil)))) qa_nil))))))))) (qss_one (qs_ret (qe_callTy call_tuple_of rfl X.z_tuple PyProof.Rows.boot_tuple (qaN (qv 4) qa_nil)))))))),?_⟩
  dsimp only[cxOf]
  obtain⟨cs2,w0,rfl⟩:=snoc_of (l:=cs) (by omega)
  rw[List.length_append,List.length_singleton] at l20 l90
  have hd:H d=some (.lst (cs2.map V.int++[.int w0])):=by rw[hd,List.map_append];rfl
  refine⟨_,rfl,.inl ⟨rfl,_,SqL.of hd⟩,d,_,.int w0,rfl,rfl,hd,by simp,?_⟩
  dsimp only
  rw[List.dropLast_concat]
  have k2:Kp [d] H (upd H d (.lst (cs2.map V.int))):=(Kp.refl _ _).upd (by simp)
  have hd2:=upd_same (H:=H) (a:=d) (o:=.lst (cs2.map V.int))
  generalize upd H d (.lst (cs2.map V.int))=H2 at k2 hd2 ⊢
  have w30:=Int.emod_nonneg w0 (show (3:Int) ≠ 0 by decide)
  have w31:=Int.emod_lt_of_pos w0 (show (0:Int) < 3 by decide)
  obtain⟨hkd,mkd⟩:=kd3_at w30 w31
  refine⟨(by show 3 <= sizeLine;decide),fun ka hka=>?_⟩
  have s3:=same_new hka (.lst [V.str "num",V.str "text",V.str "row"])
  refine⟨_,rfl,_,_,rfl,rfl,(by show (0:Int) < 3;decide),ka,_,_,.str (kd3 (w0 % 3)),rfl,rfl,SqL.of upd_same,hkd,?_⟩
  generalize kd3 (w0 % 3)=kd at mkd ⊢
  refine⟨(by show 0 <= sizeLine;decide),fun r hr'=>?_⟩
  have s4:=same_new hr' (.lst [])
  have nr:r ≠ d:=fun z=>by rw[z,s3 _ _ hd2] at hr';cases hr'
  have hr6:=upd_same (H:=upd H2 ka (.lst [V.str "num",V.str "text",V.str "row"])) (a:=r) (o:=.lst [])
  have s35:=s3.trans s4
  have hd6:=s35 _ _ hd2
  have r0:H r=none:=k2.free (s3.free hr') (by simpa using nr)
  have k6:=k2.same s35
  generalize upd (upd H2 ka (.lst [V.str "num",V.str "text",V.str "row"])) r (.lst [])=H6 at k6 hr6 hd6 ⊢
  refine⟨_,rfl,_,rfl,by omega,by omega,?_⟩
  refine for_range (n:=((n:Int)).toNat) (fun i σ H'=>∃ (ds:List Int) (sg:List Sg) (us:List V) (x5 x6 x7 x8 x9:Option V),σ=[some (.ref d),some (.int n),some (.int w0),some (.str kd),some (.ref r),x5,x6,x7,x8,x9]/\Kp [d,r] H6 H'/\H' d=some (.lst (ds.map V.int))/\ds.length+i=cs2.length/\(∀ c ∈ ds,c ∈ cs2)/\H' r=some (.lst us)/\L2R (SgIs H') sg us/\sg.length=i/\∀ s ∈ sg,SgG s)
    ⟨cs2,[],[],none,none,none,none,none,rfl,Kp.refl _ _,hd6,rfl,fun c hc=>hc,hr6,.nil,rfl,(fun s hs=>nomatch hs)⟩ ?_ ?_
  · rintro i σ H' hi ⟨ds,sg,us,x5,x6,x7,x8,x9,rfl,kp,hd',ld,hds,hr2,hus,lsg,gd⟩
    have hi6:i < 3:=by omega
    have lus:=hus.len
    obtain⟨ds',c,rfl⟩:=snoc_of (l:=ds) (by omega)
    rw[List.length_append,List.length_singleton] at ld
    have hd':H' d=some (.lst (ds'.map V.int++[.int c])):=by rw[hd',List.map_append];rfl
    refine⟨_,rfl,.inl ⟨rfl,_,SqL.of hd'⟩,d,_,.int c,rfl,rfl,hd',by simp,?_⟩
    dsimp only
    rw[List.dropLast_concat]
    have T1:SameT H' (upd H' d (.lst (ds'.map V.int))):=sameT_lst hd'
    have kp1:Kp [d,r] H6 (upd H' d (.lst (ds'.map V.int))):=kp.upd (by simp)
    have hd1:=upd_same (H:=H') (a:=d) (o:=.lst (ds'.map V.int))
    have hr1:upd H' d (.lst (ds'.map V.int)) r=some (.lst us):=by rw[upd_ne nr];exact hr2
    have hus1:L2R (SgIs (upd H' d (.lst (ds'.map V.int)))) sg us:=hus.imp fun _ _ h=>SgIs.same T1 h
    generalize upd H' d (.lst (ds'.map V.int))=G1 at kp1 hd1 hr1 hus1 ⊢
    refine⟨_,rfl,_,rfl,(by show 2 <= sizeLine;decide),fun a2 h2=>?_⟩
    have s2:=same_new h2 (.lst [.int c,.int w0])
    obtain⟨near,hnear⟩ : ∃ near:Int,atI [V.int c,V.int w0] (w0 / 3 % 2)=some (.int near):=by
      have:w0 / 3 % 2=0\/w0 / 3 % 2=1:=by omega
      rcases this with e | e <;> rw[e] <;> exact⟨_,rfl⟩
    refine⟨_,rfl,_,_,rfl,rfl,⟨by decide,by decide⟩,_,_,rfl,rfl,(by show (0:Int) < 2;decide),a2,_,_,.int near,rfl,rfl,SqL.of upd_same,hnear,?_⟩
    generalize upd G1 a2 (.lst [.int c,.int w0])=G2 at s2 ⊢
    refine⟨(by show 6 <= sizeLine;decide),fun a3 h3=>?_⟩
    have s3a:=same_new h3 (.lst [.int 1,.int 2,.int 2,.int 0,.int 1,.int 2])
    obtain⟨u1,hu1,u10,u12⟩ : ∃ u:Int,atI [V.int 1,V.int 2,V.int 2,V.int 0,V.int 1,V.int 2] (c % 6)=some (.int u)/\0 <= u/\u <= 2:=by
      have:c % 6=0\/c % 6=1\/c % 6=2\/c % 6=3\/c % 6=4\/c % 6=5:=by omega
      rcases this with e | e | e | e | e | e <;> rw[e] <;> exact⟨_,rfl,by decide,by decide⟩
    refine⟨_,rfl,_,_,rfl,rfl,(by show (0:Int) < 6;decide),a3,_,_,.int u1,rfl,rfl,SqL.of upd_same,hu1,_,rfl,by omega,by omega,fun D hD=>?_⟩
    have s2a:=s2.trans s3a
    generalize upd G2 a3 (.lst [.int 1,.int 2,.int 2,.int 0,.int 1,.int 2])=G2 at s2a hD ⊢
    refine comp_rng (fun j acc G=>PrsI (near / 30) 0 D G2 j acc G) (Nat.lt_of_le_of_lt (show u1.toNat <= 1000 by omega) (by decide)) ⟨[],rfl,(fun j p h=>by simp at h),.nil,same_new hD _,upd_same⟩ (fun j acc G ⟨prs,l,_,r,_,d⟩=>⟨d,by rw[r.len,l]⟩) ?_ ?_
    · rintro j m' acc G hj I hm'
      have I':=I
      obtain⟨prs,l,e,rr,sm,dd⟩:=I'
      refine⟨_,rfl,_,_,rfl,rfl,⟨by decide,by decide⟩,_,rfl,near / 30,_,rfl,_,rfl,(by show 2 <= sizeLine;decide),fun t ht=>?_⟩
      exact cstep hj hm' (same_new ht _ _ _ dd) (I.step mkd ht hD)
    rintro dacc G3 ⟨dn,ldn,edn,rdn,s3',hD3⟩
    have ldn2:dn.length <= 2:=by omega
    have ldac:=rdn.len
    refine⟨D,dacc,rfl,.inl ⟨SqL.of hD3,fun t1 ht1=>?_⟩⟩
    have z1:=same_new ht1 (.tup dacc)
    have g1:=upd_same (H:=G3) (a:=t1) (o:=.tup dacc)
    have rdn1:L2R (PrIs (upd G3 t1 (.tup dacc))) dn dacc:=rdn.imp fun _ _ h=>PrIs.same (sameT z1) h
    have sB:=(s2a.trans s3').trans z1
    generalize upd G3 t1 (.tup dacc)=G4 at z1 g1 rdn1 sB ⊢
    refine⟨(by show 5 <= sizeLine;decide),fun a4 h4=>?_⟩
    have s4':=same_new h4 (.lst [.int 1,.int 2,.int 2,.int 1,.int 0])
    obtain⟨u,hu,u0,u2⟩ : ∃ u:Int,atI [V.int 1,V.int 2,V.int 2,V.int 1,V.int 0] (c / 6 % 5)=some (.int u)/\0 <= u/\u <= 2:=by
      have:c / 6 % 5=0\/c / 6 % 5=1\/c / 6 % 5=2\/c / 6 % 5=3\/c / 6 % 5=4:=by omega
      rcases this with e | e | e | e | e <;> rw[e] <;> exact⟨_,rfl,by decide,by decide⟩
    refine⟨_,rfl,_,_,rfl,rfl,⟨by decide,by decide⟩,_,_,rfl,rfl,(by show (0:Int) < 5;decide),a4,_,_,.int u,rfl,rfl,SqL.of upd_same,hu,_,rfl,by omega,by omega,fun D2 hD2=>?_⟩
    have sC:=sB.trans s4'
    have g14:=s4' _ _ g1
    have rdn4:L2R (PrIs (upd G4 a4 (.lst [.int 1,.int 2,.int 2,.int 1,.int 0]))) dn dacc:=rdn1.imp fun _ _ h=>PrIs.same (sameT s4') h
    generalize upd G4 a4 (.lst [.int 1,.int 2,.int 2,.int 1,.int 0])=G4 at sC g14 rdn4 hD2 ⊢
    refine comp_rng (fun j acc G=>PrsI (near / 30) 2 D2 G4 j acc G) (Nat.lt_of_le_of_lt (show u.toNat <= 1000 by omega) (by decide)) ⟨[],rfl,(fun j p h=>by simp at h),.nil,same_new hD2 _,upd_same⟩ (fun j acc G ⟨prs,l,_,r,_,d⟩=>⟨d,by rw[r.len,l]⟩) ?_ ?_
    · rintro j m' acc G hj I hm'
      have I':=I
      obtain⟨prs,l,e,rr,sm,dd⟩:=I'
      have ej:(2:Int)+(0+(j:Int))=2+(j:Int):=by omega
      refine⟨_,rfl,_,_,rfl,rfl,⟨by decide,by decide⟩,_,rfl,_,_,rfl,rfl,near / 30,_,rfl,_,rfl,(by show 2 <= sizeLine;decide),fun t ht=>?_⟩
      rw[ej]
      exact cstep hj hm' (same_new ht _ _ _ dd) (I.step mkd ht hD2)
    rintro uacc G5 ⟨up,lup,eup,rup,s5',hD5⟩
    have lup2:up.length <= 2:=by omega
    refine⟨D2,uacc,rfl,.inl ⟨SqL.of hD5,fun t2 ht2=>?_⟩⟩
    have z2:=same_new ht2 (.tup uacc)
    have sA:=(sC.trans s5').trans z2
    have hrA:=sA _ _ hr1
    have hdA:=sA _ _ hd1
    have g15:=(s5'.trans z2) _ _ g14
    have rdn5:L2R (PrIs (upd G5 t2 (.tup uacc))) dn dacc:=rdn4.imp fun _ _ h=>PrIs.same (sameT (s5'.trans z2)) h
    have rup5:L2R (PrIs (upd G5 t2 (.tup uacc))) up uacc:=rup.imp fun _ _ h=>PrIs.same (sameT z2) h
    have g25:=upd_same (H:=G5) (a:=t2) (o:=.tup uacc)
    generalize upd G5 t2 (.tup uacc)=G5 at sA hrA hdA g15 rdn5 rup5 g25 ⊢
    refine⟨_,rfl,.inl ⟨rfl,_,SqL.of hrA⟩,_,rfl,_,_,rfl,rfl,⟨by decide,by decide⟩,_,rfl,w0 / 6,_,rfl,_,rfl,_,rfl,(by show 3 <= sizeLine;decide),fun t3 ht3=>?_⟩
    have z3:=same_new ht3 (.tup [.str (wrd (w0 / 6) (0+(i:Int))),.ref t1,.ref t2])
    have hrZ:=z3 _ _ hrA
    refine⟨r,us,_,rfl,rfl,hrZ,fitsL (by omega),?_⟩
    have g3:=upd_same (H:=G5) (a:=t3) (o:=.tup [.str (wrd (w0 / 6) (0+(i:Int))),.ref t1,.ref t2])
    have g1z:=z3 _ _ g15
    have g2z:=z3 _ _ g25
    have hdZ:=z3 _ _ hdA
    generalize upd G5 t3 (.tup [.str (wrd (w0 / 6) (0+(i:Int))),.ref t1,.ref t2])=G6 at z3 hrZ g3 g1z g2z hdZ ⊢
    have TL:SameT G6 (upd G6 r (.lst (us++[.ref t3]))):=sameT_lst hrZ
    have TA:=(sameT (sA.trans z3)).trans TL
    have TB:=(sameT z3).trans TL
    refine⟨ds',sg++[⟨wrd (w0 / 6) (0+(i:Int)),dn,up⟩],us++[.ref t3],_,_,_,_,_,rfl,(kp1.same (sA.trans z3)).upd (by simp),by rw[upd_ne nr.symm];exact hdZ,by omega,(fun c' hc'=>hds c' (List.mem_append_left _ hc')),upd_same,?_,by rw[List.length_append,lsg];rfl,?_⟩
    · exact (hus1.imp fun _ _ h=>SgIs.same TA h).snoc ⟨t3,t1,t2,dacc,uacc,rfl,TL _ _ g3,TL _ _ g1z,rdn5.imp fun _ _ h=>PrIs.same TB h,TL _ _ g2z,rup5.imp fun _ _ h=>PrIs.same TB h⟩
    · intro s hs
      rcases List.mem_append.mp hs with h | h
      · exact gd s h
      · rw[List.mem_singleton.mp h]
        have nd:=pairs_nd (c:=near / 30) (fun j p hp=>by have:=(edn j p hp).1;rw[this,show (0:Int)+(j:Int)=(j:Int) by omega]) (fun j p hp=>(eup j p hp).1) ldn2 lup2
        rw[List.map_append] at nd
        refine⟨ldn2,lup2,fun p hp q hq=>(List.nodup_append.mp nd).2.2 _ (List.mem_map.mpr ⟨p,hp,rfl⟩) _ (List.mem_map.mpr ⟨q,hq,rfl⟩),fun p hp=>?_⟩
        rcases List.mem_append.mp hp with h | h
        · obtain⟨j,hj⟩:=List.getElem?_of_mem h
          exact (edn j p hj).2
        · obtain⟨j,hj⟩:=List.getElem?_of_mem h
          exact (eup j p hj).2
  · rintro σ H' ⟨ds,sg,us,x5,x6,x7,x8,x9,rfl,kp,hd',ld,hds,hr2,hus,lsg,gd⟩
    refine⟨_,rfl,r,_,rfl,.inl ⟨SqL.of hr2,fun a ha=>?_⟩⟩
    have s7:=same_new ha (.tup us)
    refine q a us sg ds _ (fun b o n h=>?_) (s7 _ _ hd') (by simp;omega) (by omega) (fun c hc=>List.mem_append_left _ (hds c hc)) upd_same (hus.imp fun _ _ h=>SgIs.same (sameT s7) h) ⟨gd,by omega,by omega⟩
    have nb:b ≠ r:=fun z=>by rw[z,r0] at h;cases h
    exact s7 _ _ (kp b o (by simp;exact⟨by simpa using n,nb⟩) (k6 b o n h))
end
end K35
namespace FT
open PySem L2 TR
end FT
namespace SP
open PySem L2 TR FT
open TM
end SP
namespace SP
open PySem L2 TR FT
open TM
end SP
namespace SP
open PySem L2
open TM
structure TB (S:List Pr) (d:Nat) (k:Int) (t:Tm):Prop where
  dp:depth t <= d
  pt:parts t <= k
  nm:∀ p ∈ named t,p ∈ S
theorem mem_addTo {acc:List Pr} {q p:Pr}:p ∈ addTo acc q ↔ p ∈ acc\/p=q:=by
  unfold addTo
  split
  · constructor
    · exact .inl
    · rintro (h | rfl)
      · exact h
      · assumption
  · rw[List.mem_append,List.mem_singleton]
theorem mem_uni:∀ {ps acc:List Pr} {p:Pr},p ∈ uni acc ps ↔ p ∈ acc\/p ∈ ps
  | [],acc,p=>by unfold uni;simp
  | q::ps,acc,p=>by
    have:=mem_uni (ps:=ps) (acc:=addTo acc q) (p:=p)
    unfold uni at this ⊢
    rw[List.foldl_cons,this,mem_addTo,List.mem_cons,or_assoc]
theorem mem_nameds:∀ {ts:List Tm} {acc:List Pr} {p:Pr},p ∈ nameds acc ts ↔ p ∈ acc\/∃ t ∈ ts,p ∈ named t
  | [],acc,p=>by rw[nameds];simp
  | t::ts,acc,p=>by
    rw[nameds,mem_nameds,mem_uni,or_assoc]
    simp
theorem mem_named_call {w:Str} {ts:List Tm} {p:Pr}:p ∈ named (.call w ts) ↔ ∃ t ∈ ts,p ∈ named t:=by
  rw[named,mem_nameds]
  simp
theorem TB.mono {S S':List Pr} {d d':Nat} {k k':Int} {t:Tm} (h:TB S d k t) (hs:∀ p ∈ S,p ∈ S') (hd:d <= d') (hk:k <= k'):TB S' d' k' t:=⟨Nat.le_trans h.dp hd,Int.le_trans h.pt hk,fun p hp=>hs p (h.nm p hp)⟩
theorem TB.le {S:List Pr} {d d':Nat} {k k':Int} {t:Tm} (h:TB S d k t) (hd:d <= d') (hk:k <= k'):TB S d' k' t:=h.mono (fun _ h=>h) hd hk
theorem TB.mark {S:List Pr}:TB S 1 1 .mark:=⟨by rw[depth];decide,by rw[parts];decide,fun p hp=>by rw[named] at hp;cases hp⟩
theorem TB.row {S:List Pr}:TB S 1 1 .row:=⟨by rw[depth];decide,by rw[parts];decide,fun p hp=>by rw[named] at hp;cases hp⟩
theorem TB.num {S:List Pr} {n:Int}:TB S 1 1 (.num n):=⟨by rw[depth];decide,by rw[parts];decide,fun p hp=>by rw[named] at hp;cases hp⟩
theorem TB.text {S:List Pr} {z:Str}:TB S 1 1 (.text z):=⟨by rw[depth];decide,by rw[parts];decide,fun p hp=>by rw[named] at hp;cases hp⟩
theorem TB.val {S:List Pr} {k:Int} {z:Str} (h:(k,z) ∈ S):TB S 1 1 (.val k z):=⟨by rw[depth];decide,by rw[parts];decide,fun p hp=>by
  rw[named,List.mem_singleton] at hp
  rw[hp]
  exact h⟩
theorem TB.call2 {S:List Pr} {d e:Nat} {k l:Int} {w:Str} {t u:Tm} (h:TB S d k t) (g:TB S e l u):TB S (1+max d e) (1+k+l) (.call w [t,u]):=⟨by
  rw[depth,depths,depths,depths]
  have:=h.dp
  have:=g.dp
  omega,by
  rw[parts,partss,partss,partss]
  have:=h.pt
  have:=g.pt
  omega,fun p hp=>by
  obtain⟨x,hx,h2⟩:=mem_named_call.mp hp
  simp only[List.mem_cons,List.mem_nil_iff,or_false] at hx
  rcases hx with rfl | rfl
  · exact h.nm p h2
  · exact g.nm p h2⟩
theorem TB.call3 {S:List Pr} {d e f:Nat} {k l m:Int} {w:Str} {t u v:Tm} (h:TB S d k t) (g:TB S e l u) (i:TB S f m v):TB S (1+max d (max e f)) (1+k+l+m) (.call w [t,u,v]):=⟨by
  rw[depth,depths,depths,depths,depths]
  have:=h.dp
  have:=g.dp
  have:=i.dp
  omega,by
  rw[parts,partss,partss,partss,partss]
  have:=h.pt
  have:=g.pt
  have:=i.pt
  omega,fun p hp=>by
  obtain⟨x,hx,h2⟩:=mem_named_call.mp hp
  simp only[List.mem_cons,List.mem_nil_iff,or_false] at hx
  rcases hx with rfl | rfl | rfl
  · exact h.nm p h2
  · exact g.nm p h2
  · exact i.nm p h2⟩
end SP
namespace K35
open PySem L2 TR SP
open TM
theorem seq_join {t rest:TS} {D:Ends} {σ:St} {H:Hp} (R0:St->Hp->Prop) (key:∀ σ' H',R0 σ' H'->rest D σ' H') (k:∀ F:St->Hp->Prop,(∀ σ' H',R0 σ' H'->F σ' H')->t { D with nx:=F } σ H):tSeq t rest D σ H:=k (rest D) key
theorem tm_call {H:Hp} {w:Str} {ts:List Tm} {a b:Addr} {vs:List V} (ha:H a=some (.tup [.str "call",.str w,.ref b])) (hb:H b=some (.tup vs)) (hl:vs.length <= 1000) (h:TmsIs H ts vs):TmIs H (.call w ts) (.ref a):=by
  unfold TmIs
  exact⟨a,b,vs,rfl,ha,hb,hl,h⟩
theorem tms2 {H:Hp} {t u:Tm} {v x:V} (h:TmIs H t v) (g:TmIs H u x):TmsIs H [t,u] [v,x]:=by unfold TmsIs TmsIs TmsIs;exact⟨v,_,rfl,h,x,_,rfl,g,rfl⟩
theorem tms3 {H:Hp} {t u s:Tm} {v x y:V} (h:TmIs H t v) (g:TmIs H u x) (k:TmIs H s y):TmsIs H [t,u,s] [v,x,y]:=by unfold TmsIs TmsIs TmsIs TmsIs;exact⟨v,_,rfl,h,x,_,rfl,g,y,_,rfl,k,rfl⟩
theorem tm_mark {H:Hp} {p:Addr} (h:H p=some (.tup [.str "mark"])):TmIs H .mark (.ref p):=by unfold TmIs;exact⟨p,rfl,h⟩
theorem tm_row {H:Hp} {p:Addr} (h:H p=some (.tup [.str "row"])):TmIs H .row (.ref p):=by unfold TmIs;exact⟨p,rfl,h⟩
theorem tm_num {H:Hp} {p:Addr} {n:Int} (h:H p=some (.tup [.str "num",.int n])):TmIs H (.num n) (.ref p):=by unfold TmIs;exact⟨p,rfl,h⟩
theorem tm_text {H:Hp} {p:Addr} {z:Str} (h:H p=some (.tup [.str "text",.str z])):TmIs H (.text z) (.ref p):=by unfold TmIs;exact⟨p,rfl,h⟩
theorem tm_val {H:Hp} {p:Addr} {k:Int} {z:Str} (h:H p=some (.tup [.str "of",.int k,.str z])):TmIs H (.val k z) (.ref p):=by unfold TmIs;exact⟨p,rfl,h⟩
theorem pick_of {kd:Str} (h:kd ∈ kinds3) (x y z:V):∃ v,valV (mergeK [] [((.inr "num" : Key),x),(.inr "text",y),(.inr "row",z)]) (.inr kd)=some v/\((kd = "num"/\v=x)\/(kd = "text"/\v=y)\/(kd = "row"/\v=z)):=by
  simp only[kinds3,List.mem_cons,List.mem_nil_iff,or_false] at h
  rcases h with rfl | rfl | rfl
  · exact⟨x,rfl,.inl ⟨rfl,rfl⟩⟩
  · exact⟨y,rfl,.inr (.inl ⟨rfl,rfl⟩)⟩
  · exact⟨z,rfl,.inr (.inr ⟨rfl,rfl⟩)⟩
theorem deed_of {kd:Str} (h:kd ∈ kinds3) (d:Str):∃ dd:Str,valV (mergeK [] [((.inr "num" : Key),V.str d),(.inr "text",.str "glue"),(.inr "row",.str "link")]) (.inr kd)=some (.str dd):=by
  simp only[kinds3,List.mem_cons,List.mem_nil_iff,or_false] at h
  rcases h with rfl | rfl | rfl
  · exact⟨d,rfl⟩
  · exact⟨_,rfl⟩
  · exact⟨_,rfl⟩
noncomputable def keyV (e:Vl):Pr:=(e.1,e.2.1)
def spTerm:Sp:=fun vs H Q _=>∃ (kd:Str) (l:Addr) (es:List Vl) (us:List V) (c:Int),vs=[.str kd,.ref l,.int c]/\kd ∈ kinds3/\H l=some (.lst us)/\L2R (VlIs H) es us/\us.length <= 3/\∀ t x H',Same H H'->TmIs H' t x->TB (es.map keyV) 12 100 t->Q x H'
section
variable {P:Program} {w:World} {K:PySem.W.Frag} {mg:Str->Option Value} {base:Heap} {T:Adr}
theorem ok_term (X:Tx K mg T):FnOk P w K mg base CX0 1 T.qterm T.d_qterm ["_law_kind", "_law_some", "_law_cell"] spTerm:=by
  refine X.F_qterm.okQ sc_qterm (fun vs H Q E h=>?_) (fun cdv A outer s H vs Q E hr h=>?_)
  · obtain⟨_,_,_,_,_,rfl,_⟩:=h
    rfl
  obtain⟨kd,l,es,us,c,rfl,hk,hl,hus,lus,q⟩:=h
  refine⟨_,(qss_cons (qs_set (i:=3) sc_qterm.nd rfl (Or.inl rfl) (qe_dget (hu_of hr) (qe_disp (qps_cons qe_str (qe_tup (qaC qe_str (qaB (qe_op op_mod (qv 2) (qe_op op_pow qe_int qe_int)) qa_nil))) (qps_cons qe_str (qe_tup (qaC qe_str (qaC qe_str qa_nil))) (qps_cons qe_str (qe_tup (qaC qe_str qa_nil)) pps_nil)))) (qv 0))) (qss_cons (qs_if (qw_pt (qw_and (qt_cmpR op_eq (qv 0) qe_str (nomark _)) (qw_and1 (qt_cmpR op_eq (qe_op op_mod (qv 2) qe_int) qe_int (nomark _))))) (qss_one (qs_set (i:=3) sc_qterm.nd rfl (Or.inl rfl) (qe_tup (qaC qe_str qa_nil)))) qss_nil) (qss_cons (qs_set (i:=4) sc_qterm.nd rfl (Or.inl rfl) (qe_dget (hu_of hr) (qe_disp (qps_cons qe_str (qe_ix ix_list (qe_lst (qaC qe_str (qaC qe_str (qaC qe_str (qaC qe_str qa_nil))))) (qe_op op_mod (qe_op op_fdiv (qv 2) qe_int) qe_int) (fun _ _=>rfl)) (qps_cons qe_str qe_str (qps_cons qe_str qe_str pps_nil)))) (qv 0))) (qss_cons (qs_for PassesOwn.never rfl (qi_range1 rfl X.z_range (qaK (qe_callB call_len_seq rfl X.z_len PySem.boot_len (qaN (qv 1) qa_nil)) qa_nil)) (qg_name (i:=5) sc_qterm.nd rfl (Or.inl rfl)) (qss_cons (qs_set (i:=3) sc_qterm.nd rfl (Or.inl rfl) (qe_lst (qaN (qv 3) (qaT (qe_tup (qaC qe_str (qaS (qe_ix ix_tup (qe_ix ix_list (qv 1) (qv 5) (fun _ _=>rfl)) qe_int (fun _ _=>rfl)) (qaS (qe_ix ix_tup (qe_ix ix_list (qv 1) (qv 5) (fun _ _=>rfl)) qe_int (fun _ _=>rfl)) qa_nil)))) qa_nil)))) (qss_one (qs_if (qw_pt (qw_and (qt_cmpR op_eq (qv 5) qe_int (nomark _)) (qw_and1 (qt_cmpR op_eq (qe_op op_mod (qe_op op_fdiv (qv 2) qe_int) qe_int) qe_int (nomark _))))) (qss_one (qs_set (i:=3) sc_qterm.nd rfl (Or.inl rfl) (qe_ix ix_list (qv 3) qe_int (fun _ _=>rfl)))) (qss_one (qs_if (qw_pt (qw_and (qt_cmpR op_gt (qv 5) qe_int (nomark _)) (qw_and1 (qt_cmpR op_eq (qe_op op_mod (qe_op op_fdiv (qv 2) qe_int) qe_int) qe_int (nomark _))))) (qss_one (qs_set (i:=3) sc_qterm.nd rfl (Or.inl rfl) (qe_tup (qaC qe_str (qaC qe_str (qaT (qe_tup (qaT (qe_tup (qaC qe_str qa_nil)) (qaS (qe_ix ix_list (qv 3) qe_int (fun _ _=>rfl)) (qaS (qe_ix ix_list (qv 3) qe_int (fun _ _=>rfl)) qa_nil)))) qa_nil)))))) (qss_one (qs_set (i:=3) sc_qterm.nd rfl (Or.inl rfl) (qe_tup (qaC qe_str (qaN (qv 4) (qaT (qe_tup (qaS (qe_ix ix_list (qv 3) (qe_op op_mod (qe_op op_fdiv (qv 2) qe_int) qe_int) (fun _ _=>rfl)) (qaS (qe_ix ix_list (qv 3) (qe_op op_sub qe_int (qe_op op_mod (qe_op op_fdiv (qv 2) qe_int) qe_int)) (fun _ _=>rfl)) qa_nil))) qa_nil)))))))))))) (qss_one (qs_ret (qv 3))))))),?_⟩
  dsimp only[cxOf]
  intro dp hdp
  have s4:=same_new hdp (.dK [])
  refine⟨_,rfl,_,_,rfl,rfl,⟨by decide,by decide,by decide⟩,_,_,rfl,rfl,(by show (0:Int) < 10 ^ Int.toNat 18;decide),(by show 2 <= sizeLine;decide),fun p1 h1=>⟨(by show 2 <= sizeLine;decide),fun p2 h2=>⟨(by show 1 <= sizeLine;decide),fun p3 h3=>?_⟩⟩⟩
  have z1:=same_new h1 (.tup [.str "num",.int (c % 10 ^ Int.toNat 18)])
  have z2:=same_new h2 (.tup [.str "text",.str "ab0"])
  have z3:=same_new h3 (.tup [.str "row"])
  have zA:=z1.trans (z2.trans z3)
  refine⟨zA _ _ upd_same,[(.inr "num",.ref p1),(.inr "text",.ref p2),(.inr "row",.ref p3)],rfl,(by show 3 <= 15;decide),?_⟩
  obtain⟨v0,hv0,cs0⟩:=pick_of hk (.ref p1) (.ref p2) (.ref p3)
  have g1:=(z2.trans z3) _ _ (upd_same (H:=upd H dp (.dK [])) (a:=p1) (o:=.tup [.str "num",.int (c % 10 ^ Int.toNat 18)]))
  have g2:=z3 _ _ (upd_same (H:=upd (upd H dp (.dK [])) p1 (.tup [.str "num",.int (c % 10 ^ Int.toNat 18)])) (a:=p2) (o:=.tup [.str "text",.str "ab0"]))
  have g3:=upd_same (H:=upd (upd (upd H dp (.dK [])) p1 (.tup [.str "num",.int (c % 10 ^ Int.toNat 18)])) p2 (.tup [.str "text",.str "ab0"])) (a:=p3) (o:=.tup [.str "row"])
  have s5:=s4.trans zA
  generalize hG:upd (upd (upd (upd H dp (.dK [])) p1 (.tup [.str "num",.int (c % 10 ^ Int.toNat 18)])) p2 (.tup [.str "text",.str "ab0"])) p3 (.tup [.str "row"])=G at g1 g2 g3 s5 zA ⊢
  have hGd:G dp=some (.dK []):=zA _ _ upd_same
  have s6:Same H (upd G dp (.dK (mergeK [] [(.inr "num",.ref p1),(.inr "text",.ref p2),(.inr "row",.ref p3)]))):=same_upd hdp s5
  refine⟨_,rfl,dp,v0,rfl,by have:=DGet.k (k:=.inr kd) (upd_same (H:=G) (a:=dp) (o:=.dK (mergeK [] [(.inr "num",.ref p1),(.inr "text",.ref p2),(.inr "row",.ref p3)])));rw[hv0] at this;exact this,?_⟩
  have nn:∀ {a:Addr} {xs:List V},G a=some (.tup xs)->upd G dp (.dK (mergeK [] [(.inr "num",.ref p1),(.inr "text",.ref p2),(.inr "row",.ref p3)])) a=some (.tup xs):=fun {a xs} h=>by
    rw[upd_ne (fun z=>by rw[z,hGd] at h;cases h)]
    exact h
  obtain⟨t0,ht0,tb0⟩ : ∃ t0,TmIs (upd G dp (.dK (mergeK [] [(.inr "num",.ref p1),(.inr "text",.ref p2),(.inr "row",.ref p3)]))) t0 v0/\TB (es.map keyV) 1 1 t0:=by
    rcases cs0 with ⟨_,rfl⟩ | ⟨_,rfl⟩ | ⟨_,rfl⟩
    · exact⟨.num _,tm_num (nn g1),TB.num⟩
    · exact⟨.text _,tm_text (nn g2),TB.text⟩
    · exact⟨.row,tm_row (nn g3),TB.row⟩
  generalize upd G dp (.dK (mergeK [] [(.inr "num",.ref p1),(.inr "text",.ref p2),(.inr "row",.ref p3)]))=H6 at s6 ht0 ⊢
  clear hG nn g1 g2 g3 hGd
  dsimp only[gName]
  refine seq_join (fun σ' H'=>∃ (t:Tm) (x:V),σ'=[some (.str kd),some (.ref l),some (.int c),some x,none,none]/\Same H H'/\TmIs H' t x/\TB (es.map keyV) 1 1 t) ?_ (fun F hF=>?_)
  · rintro σ H' ⟨t,x,rfl,sm,ht,tb⟩
    intro dp hdp
    have s4:=same_new hdp (.dK [])
    refine⟨(by show 4 <= sizeLine;decide),fun a2 h2=>?_⟩
    have s5:=same_new h2 (.lst [.str "add",.str "mul",.str "sub",.str "less"])
    obtain⟨dd,hdd⟩ : ∃ dd:Str,atI [V.str "add",V.str "mul",V.str "sub",V.str "less"] (c / 3 % 4)=some (.str dd):=by
      have h4:c / 3 % 4=0\/c / 3 % 4=1\/c / 3 % 4=2\/c / 3 % 4=3:=by omega
      rcases h4 with e | e | e | e <;> rw[e] <;> exact⟨_,rfl⟩
    refine⟨_,rfl,_,_,rfl,rfl,⟨by decide,by decide⟩,_,_,rfl,rfl,(by show (0:Int) < 4;decide),a2,_,_,.str dd,rfl,rfl,SqL.of upd_same,hdd,s5 _ _ upd_same,[(.inr "num",.str dd),(.inr "text",.str "glue"),(.inr "row",.str "link")],rfl,(by show 3 <= 15;decide),?_⟩
    obtain⟨de,hde⟩:=deed_of hk dd
    have s6:Same H' (upd (upd (upd H' dp (.dK [])) a2 (.lst [.str "add",.str "mul",.str "sub",.str "less"])) dp (.dK (mergeK [] [(.inr "num",.str dd),(.inr "text",.str "glue"),(.inr "row",.str "link")]))):=same_upd hdp (s4.trans s5)
    refine⟨_,rfl,dp,.str de,rfl,by have:=DGet.k (k:=.inr kd) (upd_same (H:=upd (upd H' dp (.dK [])) a2 (.lst [.str "add",.str "mul",.str "sub",.str "less"])) (a:=dp) (o:=.dK (mergeK [] [(.inr "num",.str dd),(.inr "text",.str "glue"),(.inr "row",.str "link")])));rw[hde] at this;exact this,?_⟩
    have sm6:=sm.trans s6
    have ht6:=TmIs.same (sameT s6) t ht
    generalize upd (upd (upd H' dp (.dK [])) a2 (.lst [.str "add",.str "mul",.str "sub",.str "less"])) dp (.dK (mergeK [] [(.inr "num",.str dd),(.inr "text",.str "glue"),(.inr "row",.str "link")]))=H6 at sm6 ht6 ⊢
    refine⟨_,rfl,l,_,rfl,.inl (SqL.of (sm6 _ _ hl)),_,rfl,by omega,by omega,?_⟩
    refine for_range (n:=((us.length:Int)).toNat) (fun i σ H'=>Same H H'/\∃ (t:Tm) (x:V) (y5:Option V),σ=[some (.str kd),some (.ref l),some (.int c),some x,some (.str de),y5]/\TmIs H' t x/\TB (es.map keyV) (1+i) (1+3 * (i:Int)) t) ⟨sm6,t,x,none,rfl,ht6,tb.le (by omega) (by omega)⟩ ?_ ?_
    · rintro i σ H2 hi ⟨sm2,t,x,y5,rfl,ht2,tb2⟩
      have hi:i < us.length:=by omega
      obtain⟨v,hv⟩:=some_of_lt hi
      obtain⟨e,he,p,rfl,hp⟩:=hus.get hv
      have hin:keyV e ∈ es.map keyV:=List.mem_map.mpr ⟨e,List.mem_of_getElem? he,rfl⟩
      have e0:(0+(i:Int))=(i:Int):=by omega
      refine⟨_,rfl,_,rfl,_,rfl,l,_,_,.ref p,rfl,rfl,SqL.of (sm2 _ _ hl),by rw[e0];exact atI_nat hv,p,_,0,.int e.1,rfl,rfl,SqT.of (sm2 _ _ hp),rfl,_,rfl,_,rfl,l,_,_,.ref p,rfl,rfl,SqL.of (sm2 _ _ hl),by rw[e0];exact atI_nat hv,p,_,1,.str e.2.1,rfl,rfl,SqT.of (sm2 _ _ hp),rfl,(by show 3 <= sizeLine;decide),fun b1 hb1=>⟨(by show 2 <= sizeLine;decide),fun b2 hb2=>?_⟩⟩
      have r1:=same_new hb1 (.tup [.str "of",.int e.1,.str e.2.1])
      have r2:=same_new hb2 (.lst [x,.ref b1])
      have r12:=r1.trans r2
      have tv:=TmIs.same (sameT r2) _ (tm_val (upd_same (H:=H2) (a:=b1) (o:=.tup [.str "of",.int e.1,.str e.2.1])))
      have tx:=TmIs.same (sameT r12) t ht2
      have hb:=upd_same (H:=upd H2 b1 (.tup [.str "of",.int e.1,.str e.2.1])) (a:=b2) (o:=.lst [x,.ref b1])
      have sm3:=sm2.trans r12
      generalize upd (upd H2 b1 (.tup [.str "of",.int e.1,.str e.2.1])) b2 (.lst [x,.ref b1])=H3 at tv tx hb sm3 ⊢
      have bv:TB (es.map keyV) 1 1 (.val e.1 e.2.1):=TB.val hin
      have one:Same H H3/\∃ (t':Tm) (x':V) (y5:Option V),[some (V.str kd),some (.ref l),some (.int c),some (.ref b1),some (.str de),some (.int (0+(i:Int)))]=[some (.str kd),some (.ref l),some (.int c),some x',some (.str de),y5]/\TmIs H3 t' x'/\TB (es.map keyV) (1+(i+1)) (1+3 * ((i+1:Nat):Int)) t':=⟨sm3,_,_,_,rfl,tv,bv.le (by omega) (by omega)⟩
      have two:∃ (u1 u2:Tm) (v1 v2:V),atI [x,V.ref b1] (c / 12 % 2)=some v1/\atI [x,V.ref b1] (1 - c / 12 % 2)=some v2/\TmIs H3 u1 v1/\TmIs H3 u2 v2/\∃ (d1 d2:Nat) (k1 k2:Int),TB (es.map keyV) d1 k1 u1/\TB (es.map keyV) d2 k2 u2/\max d1 d2=1+i/\k1+k2=2+3 * (i:Int):=by
        have h2:c / 12 % 2=0\/c / 12 % 2=1:=by omega
        rcases h2 with e | e <;> rw[e]
        · exact⟨t,_,x,_,rfl,rfl,tx,tv,_,_,_,_,tb2,bv,by omega,by omega⟩
        · exact⟨_,t,_,x,rfl,rfl,tv,tx,_,_,_,_,bv,tb2,by omega,by omega⟩
      refine⟨_,rfl,rfl,_,rfl,iteDd (fun _=>⟨_,rfl,_,_,rfl,rfl,⟨by decide,by decide⟩,_,_,rfl,rfl,(by show (0:Int) < 2;decide),rfl,_,rfl,iteDd (fun _=>⟨_,rfl,b2,_,1,.ref b1,rfl,rfl,SqL.of hb,rfl,one⟩) (fun _=>?_)⟩) (fun _=>?_)⟩
      all_goals refine⟨_,rfl,_,_,rfl,rfl,_,rfl,iteDd (fun _=>⟨_,rfl,_,_,rfl,rfl,⟨by decide,by decide⟩,_,_,rfl,rfl,(by show (0:Int) < 3;decide),rfl,_,rfl,iteDd (fun _=>⟨(by show 1 <= sizeLine;decide),fun m0 hm0=>?_⟩) (fun _=>?_)⟩) (fun _=>?_)⟩
      all_goals first
        | (
           have r0:=same_new hm0 (.tup [.str "mark"])
           refine⟨_,rfl,b2,_,0,x,rfl,rfl,SqL.of (r0 _ _ hb),rfl,_,rfl,b2,_,1,.ref b1,rfl,rfl,SqL.of (r0 _ _ hb),rfl,(by show 3 <= sizeLine;decide),fun m1 hm1=>⟨(by show 3 <= sizeLine;decide),fun m2 hm2=>?_⟩⟩
           have r3:=same_new hm1 (.tup [.ref m0,x,.ref b1])
           have r4:=same_new hm2 (.tup [.str "call",.str "pick",.ref m1])
           have r34:=r0.trans (r3.trans r4)
           exact⟨sm3.trans r34,.call "pick" [.mark,t,.val e.1 e.2.1],_,_,rfl,tm_call upd_same (r4 _ _ upd_same) (by show 3 <= 1000;decide) (tms3 (tm_mark ((r3.trans r4) _ _ upd_same)) (TmIs.same (sameT r34) t tx) (TmIs.same (sameT r34) _ tv)),(TB.mark.call3 tb2 bv).le (by omega) (by omega)⟩)
        | (
           obtain⟨u1,u2,v1,v2,hi1,hi2,g1,g2,d1,d2,k1,k2,f1,f2,mx,sx⟩:=two
           refine⟨_,rfl,_,rfl,_,rfl,_,_,rfl,rfl,⟨by decide,by decide⟩,_,_,rfl,rfl,(by show (0:Int) < 2;decide),b2,_,_,v1,rfl,rfl,SqL.of hb,hi1,_,rfl,_,rfl,_,_,rfl,rfl,⟨by decide,by decide⟩,_,_,rfl,rfl,(by show (0:Int) < 2;decide),_,_,rfl,rfl,b2,_,_,v2,rfl,rfl,SqL.of hb,hi2,(by show 2 <= sizeLine;decide),fun m1 hm1=>⟨(by show 3 <= sizeLine;decide),fun m2 hm2=>?_⟩⟩
           have r3:=same_new hm1 (.tup [v1,v2])
           have r4:=same_new hm2 (.tup [.str "call",.str de,.ref m1])
           have r34:=r3.trans r4
           exact⟨sm3.trans r34,.call de [u1,u2],_,_,rfl,tm_call upd_same (r4 _ _ upd_same) (by show 2 <= 1000;decide) (tms2 (TmIs.same (sameT r34) u1 g1) (TmIs.same (sameT r34) u2 g2)),(f1.call2 f2).le (by omega) (by omega)⟩)
    · rintro σ H2 ⟨sm2,t,x,y5,rfl,ht2,tb2⟩
      exact⟨_,rfl,q t x H2 sm2 ht2 (tb2.le (by omega) (by omega))⟩
  · have ff:∀ (t:Tm) (x:V) (H':Hp),Same H H'->TmIs H' t x->TB (es.map keyV) 1 1 t->F [some (.str kd),some (.ref l),some (.int c),some x,none,none] H':=fun t x H' a b c=>hF _ _ ⟨t,x,rfl,a,b,c⟩
    refine⟨_,rfl,rfl,_,rfl,iteDd (fun _=>⟨_,rfl,_,_,rfl,rfl,(by show (0:Int) < 3;decide),rfl,_,rfl,iteDd (fun _=>⟨(by show 1 <= sizeLine;decide),fun m hm=>?_⟩) (fun _=>ff t0 v0 H6 s6 ht0 tb0)⟩) (fun _=>ff t0 v0 H6 s6 ht0 tb0)⟩
    exact ff .mark _ _ (s6.trans (same_new hm _)) (tm_mark upd_same) TB.mark
end
end K35
namespace K35
open PySem L2 TR SP
open TM
theorem call_len_seqC {X:Cx} {K:PySem.W.Frag} (h:X.K=K):CallR X (.builtin "len") (fun xs H Q=>∃ p ys,xs=[V.ref p]/\(SqL K H p ys\/SqT K H p ys)/\Q (V.int ys.length) H):=h ▸ call_len_seq
theorem cut_dropI {xs:List V} {k:Int} (h0:0 <= k):cutV xs (some k) none=xs.drop k.toNat:=by
  obtain⟨m,rfl⟩:=Int.eq_ofNat_of_zero_le h0
  exact cut_drop' xs m
theorem mem_side {k:Nat} {s:Sg} {b:Nat} {e:Vl} (h:e ∈ sideV k s b):e.1=k/\e.2.2.1=b/\(e.2.1,e.2.2.2) ∈ (if b=0 then s.dn else s.up):=by
  unfold sideV at h
  obtain⟨p,hp,rfl⟩:=List.mem_map.mp h
  exact⟨rfl,rfl,hp⟩
theorem side_due {k:Nat} {s:Sg} {b:Nat} (hb:b < 2) (h:(k=0) ≠ (b=1)):(sideV k s b).filter dueB=[]:=by
  refine List.filter_eq_nil_iff.mpr fun e he=>?_
  obtain⟨h1,h2,_⟩:=mem_side he
  unfold dueB
  rw[h1,h2]
  have:b=0\/b=1:=by omega
  rcases this with rfl | rfl
  · by_cases z:k=0
    · subst z;simp
    · simp[z] at h
  · by_cases z:k=0
    · simp[z] at h
    · simp[z]
theorem side_len {k:Nat} {s:Sg} (g:SgG s) (b:Nat):(sideV k s b).length <= 2:=by
  unfold sideV
  rw[List.length_map]
  split
  · exact g.ld
  · exact g.lu
theorem vl_due:∀ (ss:List Sg) (k:Nat),(∀ s ∈ ss,SgG s)->((vlF k ss).filter dueB).length <= 2 * ss.length
  | [],_,_=>Nat.le_refl _
  | s::ss,k,g=>by
    rw[vlF,List.filter_append,List.filter_append,List.length_append,List.length_append,List.length_cons]
    have ih:=vl_due ss (k+1) fun x hx=>g x (List.mem_cons_of_mem _ hx)
    have gs:=g s List.mem_cons_self
    have l0:=List.length_filter_le dueB (sideV k s 0)
    have l1:=List.length_filter_le dueB (sideV k s 1)
    have m0:=side_len (k:=k) gs 0
    have m1:=side_len (k:=k) gs 1
    by_cases z:k=0
    · rw[side_due (k:=k) (s:=s) (b:=0) (by decide) (by simp[z])]
      simp only[List.length_nil]
      omega
    · rw[side_due (k:=k) (s:=s) (b:=1) (by decide) (by simp[z])]
      simp only[List.length_nil]
      omega
theorem vl_len:∀ (ss:List Sg) (k:Nat),(∀ s ∈ ss,SgG s)->(vlF k ss).length <= 4 * ss.length
  | [],_,_=>Nat.le_refl _
  | s::ss,k,g=>by
    rw[vlF,List.length_append,List.length_append,List.length_cons]
    have ih:=vl_len ss (k+1) fun x hx=>g x (List.mem_cons_of_mem _ hx)
    have gs:=g s List.mem_cons_self
    have m0:=side_len (k:=k) gs 0
    have m1:=side_len (k:=k) gs 1
    omega
theorem vl_mem:∀ (ss:List Sg) (k:Nat) (e:Vl),e ∈ vlF k ss->∃ (i b:Nat) (s:Sg),ss[i]?=some s/\b < 2/\e.1=((k+i:Nat):Int)/\e.2.2.1=b/\(e.2.1,e.2.2.2) ∈ (if b=0 then s.dn else s.up)
  | [],_,_,h=>nomatch h
  | s::ss,k,e,h=>by
    rw[vlF] at h
    rcases List.mem_append.mp h with h | h
    · rcases List.mem_append.mp h with h | h
      · obtain⟨h1,h2,h3⟩:=mem_side h
        exact⟨0,0,s,rfl,by decide,h1,h2,h3⟩
      · obtain⟨h1,h2,h3⟩:=mem_side h
        exact⟨0,1,s,rfl,by decide,h1,h2,h3⟩
    · obtain⟨i,b,s',h1,h2,h3,h4⟩:=vl_mem ss (k+1) e h
      exact⟨i+1,b,s',h1,h2,by rw[h3];congr 1;omega,h4⟩
theorem vl_kd {ss:List Sg} (g:∀ s ∈ ss,SgG s) {k:Nat} {e:Vl} (h:e ∈ vlF k ss):e.2.2.2 ∈ kinds3:=by
  obtain⟨i,b,s,h1,_,_,_,h4⟩:=vl_mem ss k e h
  refine (g s (List.mem_of_getElem? h1)).kd (e.2.1,e.2.2.2) (List.mem_append.mpr ?_)
  split at h4
  · exact .inl h4
  · exact .inr h4
def RuG (ss:List Sg) (r:Ru):Prop:=∃ one ∈ vlF 0 ss,dueB one=true/\r.k=one.1/\r.nm=one.2.1/\∃ S:List Vl,(∀ e ∈ S,e ∈ vlF 0 ss/\PlOk one e)/\TB (S.map keyV) 12 100 r.tm
structure FmG (ss:List Sg) (f:Fm):Prop where
  hd:∃ s,ss[0]?=some s/\f.hd=s.nm
  br:f.br=(ss.drop 1).map Sg.nm
  ru:∀ r ∈ f.ru,RuG ss r
  l:f.ru.length <= 8
def spForm:Sp:=fun vs H Q _=>∃ (a l d:Addr) (us:List V) (sg ss:List Sg) (at_:List Nat) (nm:Str) (m:Int) (cs:List Int),vs=[.ref a,.str nm,.ref l,.int m,.ref d]/\H a=some (.tup us)/\L2R (SgIs H) sg us/\H l=some (.lst (atV at_))/\AtS sg at_ ss/\1 <= at_.length/\at_.length <= 4/\(∀ s ∈ sg,SgG s)/\0 <= m/\m < 3/\l ≠ d /\
  H d=some (.lst (cs.map V.int))/\4 * at_.length+1 <= cs.length/\cs.length <= 200 /\
  ∀ (v:V) (f:Fm) (cs':List Int) (H':Hp),Kp [d] H H'->H' d=some (.lst (cs'.map V.int))->cs.length <= cs'.length+4 * at_.length+1->cs'.length <= 200->(∀ c ∈ cs',c ∈ cs)->FmIs H' f v->f.nm=nm->FmG ss f->Q v H'
section
variable {P:Program} {w:World} {K:PySem.W.Frag} {mg:Str->Option Value} {base:Heap} {T:Adr}
theorem ok_form (X:Tx K mg T):FnOk P w K mg base CX0 3 T.qform T.d_qform ["_law_signs_here", "_law_name", "_law_at", "_law_mode", "_law_deck_here"] spForm:=by
  have G_qvalues:=(ok_values (P:=P) (w:=w) (base:=base) X).mono (show 1 <= 2 by decide)
  have G_qdue:=(ok_due (P:=P) (w:=w) (base:=base) X).mono (show 1 <= 2 by decide)
  have G_qpool:=ok_pool (P:=P) (w:=w) (base:=base) X
  have G_qterm:=(ok_term (P:=P) (w:=w) (base:=base) X).mono (show 1 <= 2 by decide)
  refine X.F_qform.okQ sc_qform (fun vs H Q E h=>?_) (fun cdv A outer s H vs Q E hr h=>?_)
  · obtain⟨_,_,_,_,_,_,_,_,_,_,rfl,_⟩:=h
    rfl
  obtain⟨a,l,d,us,sg,ss,at_,nm,m,cs,rfl,ha,hus,hl,ats,n1,n4,gsg,m0,m3,nld,hd,l17,l200,q⟩:=h
  refine⟨_,(qss_cons (qs_set (i:=5) sc_qform.nd rfl (Or.inl rfl) (qe_call G_qvalues hr rfl X.m_qvalues X.F_qvalues.kp X.b_qvalues .nil pass0 (qaN (qv 0) (qaN (qv 2) qa_nil)))) (qss_cons (qs_set (i:=6) sc_qform.nd rfl (Or.inl rfl) (qe_lst qa_nil)) (qss_cons (qs_for PassesOwn.never rfl (qi_list (qv 5)) (qg_name (i:=7) sc_qform.nd rfl (Or.inl rfl)) (qss_one (qs_if (qt_val (qe_call G_qdue hr rfl X.m_qdue X.F_qdue.kp X.b_qdue .nil pass0 (qaN (qv 7) qa_nil))) (qss_cons (qs_set (i:=8) sc_qform.nd rfl (Or.inr rfl) (qe_bm0 PySem.F.plainAttrs_list PySem.F.slot_list_pop PySem.F.type_list_pop mt_pop (qv 4))) (qss_cons (qs_set (i:=9) sc_qform.nd rfl (Or.inr rfl) (qe_call G_qpool hr rfl X.m_qpool X.F_qpool.kp X.b_qpool .nil pass0 (qaN (qv 5) (qaN (qv 7) (qaN (qv 3) (qaB (qe_op op_fdiv (qv 8) qe_int) qa_nil)))))) (qss_cons (qs_set (i:=10) sc_qform.nd rfl (Or.inl rfl) (qe_callB (call_min2 rfl) rfl X.z_min PyProof.Rows.boot_min (qaS (qe_ix ix_list (qe_lst (qaC qe_int (qaC qe_int (qaC qe_int (qaC qe_int (qaC qe_int (qaC qe_int qa_nil))))))) (qe_op op_mod (qv 8) qe_int) (fun _ _=>rfl)) (qaB (qe_op op_mul qe_int (qe_callB call_len_seq rfl X.z_len PySem.boot_len (qaN (qv 9) qa_nil))) qa_nil)))) (qss_cons (qs_setC (ys:=["_law_cell", "_law_pool_here"]) (js:=[8,9]) rfl rfl (qi_range1 rfl X.z_range (qaN (qv 10) qa_nil)) (fun _ _ _ _ _=>qif_nil) (fun _ _ _ _ _=>(qe_ix (ix_listC (K:=K) rfl) (qv 2) (qe_op op_mod (qe_op op_fdiv (qv 1) (qe_ix (ix_listC (K:=K) rfl) (qe_lst (qaC qe_int (qaC qe_int (qaC qe_int qa_nil)))) (qv 0) (fun _ _=>rfl))) (qe_callB (call_len_seqC (K:=K) rfl) rfl X.z_len PySem.boot_len (qaN (qv 2) qa_nil))) (fun _ _=>rfl))) (qg_name (i:=11) sc_qform.nd rfl (Or.inl rfl)) rfl) (qss_one (qs_expr (qe_bm PySem.F.plainAttrs_list PySem.F.slot_list_append PySem.F.type_list_append mt_append (qv 6) (qaT (qe_tup (qaS (qe_ix ix_tup (qv 7) qe_int (fun _ _=>rfl)) (qaS (qe_ix ix_tup (qv 7) qe_int (fun _ _=>rfl)) (qaK (qe_call G_qterm hr rfl X.m_qterm X.F_qterm.kp X.b_qterm .nil pass0 (qaS (qe_ix ix_tup (qv 7) qe_int (fun _ _=>rfl)) (qaN (qv 11) (qaK (qe_bm0 PySem.F.plainAttrs_list PySem.F.slot_list_pop PySem.F.type_list_pop mt_pop (qv 4)) qa_nil)))) qa_nil)))) qa_nil)))))))) qss_nil))) (qss_cons (qs_if (qt_cmpR op_eq (qe_op op_mod (qe_bm0 PySem.F.plainAttrs_list PySem.F.slot_list_pop PySem.F.type_list_pop mt_pop (qv 4)) qe_int) qe_int (nomark _)) (qss_one (qs_set (i:=6) sc_qform.nd rfl (Or.inl rfl) (qe_listRev rfl rfl X.z_list rfl X.z_reversed (qv 6)))) qss_nil) (qss_one (qs_ret (qe_tup (qaN (qv 1) (qaS (qe_ix ix_tup (qe_ix ix_tup (qv 0) (qe_ix ix_list (qv 2) qe_int (fun _ _=>rfl)) (fun _ _=>rfl)) qe_int (fun _ _=>rfl)) (qaK (qe_callTy call_tuple_of rfl X.z_tuple PyProof.Rows.boot_tuple (qaE (qe_comp (ys:=["_law_signs_here"]) (js:=[0]) rfl rfl (qi_list (qe_slice sl_list (qv 2) (qo_some qe_int) qo_none)) (fun _ _ _ _ _=>qif_nil) (fun _ _ _ _ _=>(qe_ix (ix_tupC (K:=K) rfl) (qe_ix (ix_tupC (K:=K) rfl) (qv 1) (qv 0) (fun _ _=>rfl)) qe_int (fun _ _=>rfl)))) qa_nil)) (qaK (qe_callTy call_tuple_of rfl X.z_tuple PyProof.Rows.boot_tuple (qaN (qv 6) qa_nil)) qa_nil))))))))))),?_⟩
  dsimp only[cxOf]
  have lss:=ats.l
  have gss:∀ s ∈ ss,SgG s:=fun s hs=>by
    obtain⟨i,hi⟩:=List.getElem?_of_mem hs
    obtain⟨n,hn⟩:=some_of_lt (xs:=at_) (i:=i) (by have:=lt_of_some hi;omega)
    obtain⟨s',h1,h2⟩:=ats.e i n hn
    rw[hi] at h2
    cases h2
    exact gsg s (List.mem_of_getElem? h1)
  refine⟨_,rfl,_,rfl,a,l,us,sg,ss,at_,rfl,ha,hus,hl,ats,by omega,gsg,fun S xs H1 s1 hS hS1 hxs=>?_⟩
  have hd1:=s1 _ _ hd
  have nSd:S ≠ d:=fun z=>by rw[z,hd] at hS;cases hS
  have lvl:=vl_len ss 0 gss
  have ldu:=vl_due ss 0 gss
  have lxs:=hxs.len
  generalize hes:vlF 0 ss=es at hxs lvl ldu lxs
  refine⟨(by show 0 <= sizeLine;decide),fun r hr'=>?_⟩
  have s2:=same_new hr' (.lst [])
  have r0:H r=none:=s1.free hr'
  have nrd:r ≠ d:=fun z=>by rw[z,hd1] at hr';cases hr'
  have nrS:r ≠ S:=fun z=>by rw[z,hS1] at hr';cases hr'
  have hr2:=upd_same (H:=H1) (a:=r) (o:=.lst [])
  have hd2:=s2 _ _ hd1
  have hS2:=s2 _ _ hS1
  have hxs2:L2R (VlIs (upd H1 r (.lst []))) es xs:=hxs.imp fun _ _ h=>VlIs.same (sameT s2) h
  have k2:Kp [d] H (upd H1 r (.lst [])):=Kp.of (s1.trans s2)
  generalize upd H1 r (.lst [])=H2 at s2 hr2 hd2 hS2 hxs2 k2 ⊢
  refine⟨_,rfl,S,rfl,⟨_,SqL.of hS2⟩,?_⟩
  refine for_list (K:=K) (a:=S) (xs:=xs) (fun i σ H'=>∃ (ds:List Int) (ru:List Ru) (rus:List V) (x7 x8 x9 x10 x11:Option V),σ=[some (.ref a),some (.str nm),some (.ref l),some (.int m),some (.ref d),some (.ref S),some (.ref r),x7,x8,x9,x10,x11]/\Kp [d,r] H2 H'/\H' d=some (.lst (ds.map V.int))/\ds.length+2 * ((es.take i).filter dueB).length=cs.length/\(∀ c ∈ ds,c ∈ cs)/\H' r=some (.lst rus)/\L2R (RuIs H') ru rus/\(∀ x ∈ ru,RuG ss x)/\ru.length=((es.take i).filter dueB).length)
    ⟨cs,[],[],none,none,none,none,none,rfl,Kp.refl _ _,hd2,rfl,fun c hc=>hc,hr2,.nil,(fun x hx=>nomatch hx),rfl⟩ (fun i σ H' _ ⟨_,_,_,_,_,_,_,_,_,kp,_⟩=>SqL.of (kp _ _ (by simp;exact⟨nSd,nrS.symm⟩) hS2)) ?_ ?_
  · rintro i v σ H' hv ⟨ds,ru,rus,x7,x8,x9,x10,x11,rfl,kp,hd',lds,hds,hr3,hru,gru,lru⟩
    have T2:SameT H2 H':=kp.T fun b hb=>by
      rcases List.mem_cons.mp hb with rfl | hb
      · exact⟨_,hd2⟩
      · rw[List.mem_singleton.mp hb];exact⟨_,hr2⟩
    obtain⟨one,h1,hone⟩:=hxs2.get hv
    have hone:=VlIs.same T2 hone
    have hes':L2R (VlIs H') es xs:=hxs2.imp fun _ _ h=>VlIs.same T2 h
    have hS3:=kp _ _ (by simp;exact⟨nSd,nrS.symm⟩) hS2
    refine⟨_,rfl,one,v,rfl,hone,_,rfl,?_⟩
    cases hdue:dueB one with
    | false=>
      refine iteF ?_
      have e1:((es.take (i+1)).filter dueB)=(es.take i).filter dueB:=by rw[take_snocA h1,List.filter_append,List.filter_cons,hdue];simp
      exact⟨ds,ru,rus,_,_,_,_,_,rfl,kp,hd',by rw[e1];exact lds,hds,hr3,hru,gru,by rw[e1];exact lru⟩
    | true=>
      refine iteT ?_
      have e1:((es.take (i+1)).filter dueB).length=((es.take i).filter dueB).length+1:=by rw[take_snocA h1,List.filter_append,List.filter_cons,hdue];simp
      have lf:((es.take (i+1)).filter dueB).length <= (es.filter dueB).length:=((List.take_sublist _ _).filter _).length_le
      obtain⟨p,rfl,hp⟩:=id hone
      obtain⟨ds2,c,rfl⟩:=snoc_of (l:=ds) (by omega)
      rw[List.length_append,List.length_singleton] at lds
      have hd':H' d=some (.lst (ds2.map V.int++[.int c])):=by rw[hd',List.map_append];rfl
      refine⟨_,rfl,.inl ⟨rfl,_,SqL.of hd'⟩,d,_,.int c,rfl,rfl,hd',by simp,?_⟩
      dsimp only
      rw[List.dropLast_concat]
      have kp1:Kp [d,r] H2 (upd H' d (.lst (ds2.map V.int))):=kp.upd (by simp)
      have T3:SameT H' (upd H' d (.lst (ds2.map V.int))):=sameT_lst hd'
      have hd3:=upd_same (H:=H') (a:=d) (o:=.lst (ds2.map V.int))
      have hr4:upd H' d (.lst (ds2.map V.int)) r=some (.lst rus):=by rw[upd_ne nrd];exact hr3
      have hS4:upd H' d (.lst (ds2.map V.int)) S=some (.lst xs):=by rw[upd_ne nSd];exact hS3
      have hone4:=VlIs.same T3 hone
      have hes4:L2R (VlIs (upd H' d (.lst (ds2.map V.int)))) es xs:=hes'.imp fun _ _ h=>VlIs.same T3 h
      have hru4:L2R (RuIs (upd H' d (.lst (ds2.map V.int)))) ru rus:=hru.imp fun _ _ h=>RuIs.same T3 h
      have hp4:=T3 _ _ hp
      generalize upd H' d (.lst (ds2.map V.int))=G at kp1 hd3 hr4 hS4 hone4 hes4 hru4 hp4 ⊢
      refine⟨_,rfl,_,rfl,_,rfl,_,rfl,_,_,rfl,rfl,⟨by decide,by decide⟩,S,xs,es,one,_,m,c / 6,rfl,hS4,hes4,hone4,by omega,m0,m3,fun D ys G1 g1 hD hD1 hys=>?_⟩
      have lys:=hys.len
      have lfe:=List.length_filter_le (plB m one) es
      refine⟨(by show 6 <= sizeLine;decide),fun a1 h1a=>?_⟩
      have g2:=same_new h1a (.lst [.int 1,.int 1,.int 2,.int 0,.int 3,.int 1])
      obtain⟨u,hu,u0,u3⟩ : ∃ u:Int,atI [V.int 1,V.int 1,V.int 2,V.int 0,V.int 3,V.int 1] (c % 6)=some (.int u)/\0 <= u/\u <= 3:=by
        have:c % 6=0\/c % 6=1\/c % 6=2\/c % 6=3\/c % 6=4\/c % 6=5:=by omega
        rcases this with e | e | e | e | e | e <;> rw[e] <;> exact⟨_,rfl,by decide,by decide⟩
      refine⟨_,rfl,_,_,rfl,rfl,(by show (0:Int) < 6;decide),a1,_,_,.int u,rfl,rfl,SqL.of upd_same,hu,_,rfl,D,_,rfl,.inl (SqL.of (g2 _ _ hD1)),?_⟩
      refine⟨_,_,rfl,rfl,.inl ⟨by decide,by decide⟩,_,_,rfl,?_⟩
      have hD2:=g2 _ _ hD1
      have hys2:L2R (VlIs (upd G1 a1 (.lst [.int 1,.int 1,.int 2,.int 0,.int 3,.int 1]))) (es.filter (plB m one)) ys:=hys.imp fun _ _ h=>VlIs.same (sameT g2) h
      have gA:=g1.trans g2
      generalize upd G1 a1 (.lst [.int 1,.int 1,.int 2,.int 0,.int 3,.int 1])=G2 at gA hD2 hys2 ⊢
      generalize hN:(if 3 * (ys.length:Int) < u then 3 * (ys.length:Int) else u)=N
      have N0:0 <= N:=by rw[<- hN];split <;> omega
      have N3:N <= 3:=by rw[<- hN];split <;> omega
      have Ny:0 < N->0 < ys.length:=fun h=>by
        rw[<- hN] at h
        split at h <;> omega
      refine⟨_,rfl,_,rfl,by omega,by omega,fun C hC=>?_⟩
      refine comp_rng (fun j acc J=>∃ S':List Vl,S'.length=j/\(∀ e ∈ S',e ∈ es.filter (plB m one))/\L2R (VlIs J) S' acc/\Same G2 J/\J C=some (.lst acc)) (Nat.lt_of_le_of_lt (show N.toNat <= 1000 by omega) (by decide)) ⟨[],rfl,(fun e h=>nomatch h),.nil,same_new hC _,upd_same⟩ (fun j acc J ⟨S',l,_,r,_,d⟩=>⟨d,by rw[r.len,l]⟩) ?_ ?_
      · rintro j m' acc J hj ⟨S',lS,hS',rS,smJ,hCJ⟩ hm'
        have hy0:=Ny (by omega)
        obtain⟨dv,hdv,dpos⟩ : ∃ dv:Int,atI [V.int 36,V.int 331,V.int 3001] (0+(j:Int))=some (.int dv)/\CDiv c dv:=by
          have:j=0\/j=1\/j=2:=by omega
          rcases this with rfl | rfl | rfl
          · exact⟨_,rfl,⟨by decide,by decide⟩⟩
          · exact⟨_,rfl,⟨by decide,by decide⟩⟩
          · exact⟨_,rfl,⟨by decide,by decide⟩⟩
        refine⟨_,rfl,_,rfl,(by show 3 <= sizeLine;decide),fun b1 hb1=>?_⟩
        have j1:=same_new hb1 (.lst [.int 36,.int 331,.int 3001])
        have y0:=Int.emod_nonneg (c / dv) (show (ys.length:Int) ≠ 0 by omega)
        have y1:=Int.emod_lt_of_pos (c / dv) (show (0:Int) < ys.length by omega)
        obtain⟨z,hz⟩:=some_of_lt (xs:=ys) (i:=(c / dv % (ys.length:Int)).toNat) (by omega)
        obtain⟨e,he,hez⟩:=hys2.get hz
        have hzi:atI ys (c / dv % (ys.length:Int))=some z:=by
          have:=atI_nat hz
          rwa [Int.toNat_of_nonneg y0] at this
        refine⟨_,rfl,b1,_,_,.int dv,rfl,rfl,SqL.of upd_same,hdv,_,_,rfl,rfl,dpos,_,rfl,D,_,rfl,.inl (SqL.of (j1 _ _ (smJ _ _ hD2))),_,_,rfl,rfl,(by show (0:Int) < ys.length;omega),D,_,_,z,rfl,rfl,SqL.of (j1 _ _ (smJ _ _ hD2)),hzi,?_⟩
        refine cstep hj hm' (j1 _ _ hCJ) ⟨S'++[e],by rw[List.length_append,lS];rfl,fun x hx=>?_,?_,same_upd hC (smJ.trans j1),upd_same⟩
        · rcases List.mem_append.mp hx with h | h
          · exact hS' x h
          · rw[List.mem_singleton.mp h];exact List.mem_of_getElem? he
        · have TL:=(sameT j1).trans (sameT_lst (ys:=acc++[z]) (j1 _ _ hCJ))
          exact (rS.imp fun _ _ h=>VlIs.same TL h).snoc (VlIs.same TL (VlIs.same (sameT smJ) hez))
      rintro dacc G3 ⟨S',lS,hS',rS,g3,hC3⟩
      have gB:=gA.trans g3
      obtain⟨ds3,c2,rfl⟩:=snoc_of (l:=ds2) (by omega)
      rw[List.length_append,List.length_singleton] at lds
      have hd5:G3 d=some (.lst (ds3.map V.int++[.int c2])):=by rw[gB _ _ hd3,List.map_append];rfl
      have hp5:=gB _ _ hp4
      have hr5:=gB _ _ hr4
      have hru5:L2R (RuIs G3) ru rus:=hru4.imp fun _ _ h=>RuIs.same (sameT gB) h
      have kp3:=kp1.same gB
      have nCd:C ≠ d:=fun z=>by rw[z,gA _ _ hd3] at hC;cases hC
      have nCr:C ≠ r:=fun z=>by rw[z,gA _ _ hr4] at hC;cases hC
      refine⟨_,rfl,.inl ⟨rfl,_,SqL.of hr5⟩,_,rfl,p,_,0,.int one.1,rfl,rfl,SqT.of hp5,rfl,_,rfl,p,_,1,.str one.2.1,rfl,rfl,SqT.of hp5,rfl,_,rfl,p,_,3,.str one.2.2.2,rfl,rfl,SqT.of hp5,rfl,_,rfl,_,rfl,.inl ⟨rfl,_,SqL.of hd5⟩,d,_,.int c2,rfl,rfl,hd5,by simp,?_⟩
      dsimp only
      rw[List.dropLast_concat]
      have T5:SameT G3 (upd G3 d (.lst (ds3.map V.int))):=sameT_lst hd5
      have kp4:Kp [d,r] H2 (upd G3 d (.lst (ds3.map V.int))):=kp3.upd (by simp)
      have hd6:=upd_same (H:=G3) (a:=d) (o:=.lst (ds3.map V.int))
      have hr6:upd G3 d (.lst (ds3.map V.int)) r=some (.lst rus):=by rw[upd_ne nrd];exact hr5
      have hC6:upd G3 d (.lst (ds3.map V.int)) C=some (.lst dacc):=by rw[upd_ne nCd];exact hC3
      have rS6:L2R (VlIs (upd G3 d (.lst (ds3.map V.int)))) S' dacc:=rS.imp fun _ _ h=>VlIs.same T5 h
      have hru6:L2R (RuIs (upd G3 d (.lst (ds3.map V.int)))) ru rus:=hru5.imp fun _ _ h=>RuIs.same T5 h
      generalize upd G3 d (.lst (ds3.map V.int))=G4 at kp4 hd6 hr6 hC6 rS6 hru6 ⊢
      have mem1:=List.mem_of_getElem? h1
      refine⟨one.2.2.2,C,S',dacc,c2,rfl,vl_kd gss (by rw[hes];exact mem1),hC6,rS6,by rw[rS6.len,lS];omega,fun t x G5 g5 ht tb=>⟨(by show 3 <= sizeLine;decide),fun w hw=>?_⟩⟩
      have g6:=same_new hw (.tup [.int one.1,.str one.2.1,x])
      have hr7:=(g5.trans g6) _ _ hr6
      refine⟨r,rus,_,rfl,rfl,hr7,fitsL (by rw[hru.len,lru];omega),?_⟩
      have hw7:=upd_same (H:=G5) (a:=w) (o:=.tup [.int one.1,.str one.2.1,x])
      have ht7:=TmIs.same (sameT g6) t ht
      have hd7:=(g5.trans g6) _ _ hd6
      have kp5:=kp4.same (g5.trans g6)
      have hru7:L2R (RuIs (upd G5 w (.tup [.int one.1,.str one.2.1,x]))) ru rus:=hru6.imp fun _ _ h=>RuIs.same (sameT (g5.trans g6)) h
      generalize upd G5 w (.tup [.int one.1,.str one.2.1,x])=G6 at hr7 hw7 ht7 hd7 kp5 hru7 ⊢
      have TL:SameT G6 (upd G6 r (.lst (rus++[.ref w]))):=sameT_lst hr7
      refine⟨ds3,ru++[⟨one.1,one.2.1,t⟩],rus++[.ref w],_,_,_,_,_,rfl,kp5.upd (by simp),by rw[upd_ne nrd.symm];exact hd7,by omega,fun c hc=>hds c (List.mem_append_left _ (List.mem_append_left _ hc)),upd_same,(hru7.imp fun _ _ h=>RuIs.same TL h).snoc ⟨w,x,rfl,TL _ _ hw7,TmIs.same TL t ht7⟩,fun y hy=>?_,by rw[List.length_append,lru,e1];rfl⟩
      rcases List.mem_append.mp hy with h | h
      · exact gru y h
      · rw[List.mem_singleton.mp h]
        refine⟨one,by rw[hes];exact mem1,hdue,rfl,rfl,S',fun e he=>?_,tb⟩
        obtain⟨f1,f2⟩:=List.mem_filter.mp (hS' e he)
        exact⟨by rw[hes];exact f1,plB_ok f2⟩
  · rintro σ H' ⟨ds,ru,rus,x7,x8,x9,x10,x11,rfl,kp,hd',lds,hds,hr3,hru,gru,lru⟩
    rw[lxs,List.take_length] at lds lru
    obtain⟨ds2,c,rfl⟩:=snoc_of (l:=ds) (by omega)
    rw[List.length_append,List.length_singleton] at lds
    have hd':H' d=some (.lst (ds2.map V.int++[.int c])):=by rw[hd',List.map_append];rfl
    dsimp only
    refine seq_join (fun σ' J=>∃ (r':Addr) (ru':List Ru) (rus':List V) (x7 x8 x9 x10 x11:Option V),σ'=[some (.ref a),some (.str nm),some (.ref l),some (.int m),some (.ref d),some (.ref S),some (.ref r'),x7,x8,x9,x10,x11]/\Kp [d,r] H2 J/\J d=some (.lst (ds2.map V.int))/\J r'=some (.lst rus')/\L2R (RuIs J) ru' rus'/\(∀ x ∈ ru',RuG ss x)/\ru'.length <= 8) ?_ (fun F hF=>?_)
    · rintro σ J ⟨r',ru',rus',y7,y8,y9,y10,y11,rfl,kpJ,hdJ,hrJ,hruJ,gru',l8⟩
      obtain⟨n0,hn0⟩:=some_of_lt (xs:=at_) (i:=0) (by omega)
      obtain⟨s0,hs0,hss0⟩:=ats.e 0 n0 hn0
      have T2:SameT H2 J:=kpJ.T fun b hb=>by
        rcases List.mem_cons.mp hb with rfl | hb
        · exact⟨_,hd2⟩
        · rw[List.mem_singleton.mp hb];exact⟨_,hr2⟩
      have haJ:=T2 _ _ ((s1.trans s2) _ _ ha)
      have husJ:L2R (SgIs J) sg us:=hus.imp fun _ _ h=>SgIs.same ((sameT (s1.trans s2)).trans T2) h
      have nlr:l ≠ r:=fun z=>by rw[z,r0] at hl;cases hl
      have hlJ:=kpJ _ _ (by simp;exact⟨nld,nlr⟩) ((s1.trans s2) _ _ hl)
      obtain⟨v0,hv0,hsv0⟩:=L2R.at husJ hs0
      obtain⟨p0,_,_,_,_,rfl,hp0,_⟩:=hsv0
      refine⟨_,rfl,_,rfl,_,rfl,l,_,0,.int (n0:Int),rfl,rfl,SqL.of hlJ,atI_nat (j:=0) (by unfold atV;rw[List.getElem?_map,hn0];rfl),a,_,_,.ref p0,rfl,rfl,SqT.of haJ,atI_nat hv0,p0,_,0,.str s0.nm,rfl,rfl,SqT.of hp0,rfl,_,rfl,_,rfl,l,_,rfl,SqL.of hlJ,fun sl hsl=>?_⟩
      have ed:cutV (atV at_) (some 1) none=atV (at_.drop 1):=by
        rw[cut_dropI (by decide)]
        unfold atV
        rw[<- List.map_drop]
        rfl
      rw[ed]
      have j1:=same_new hsl (.lst (atV (at_.drop 1)))
      have lat:(atV (at_.drop 1)).length=at_.length - 1:=by unfold atV;rw[List.length_map,List.length_drop]
      refine⟨sl,rfl,⟨_,SqL.of upd_same⟩,fun C hC=>?_⟩
      refine comp_lstM (K:=K) (ys:=((ss.drop 1).map Sg.nm).map V.str) (fitsL (by omega)) (by rw[lat,List.length_map,List.length_map,List.length_drop];omega) (SqL.of upd_same) hC (fun i x y J2 hx hy j2 Q' k=>?_) fun J2 j2 hC2=>?_
      · unfold atV at hx
        rw[List.getElem?_map,List.getElem?_drop] at hx
        rw[List.getElem?_map,List.getElem?_map,List.getElem?_drop] at hy
        cases e:at_[1+i]? with
        | none=>rw[e] at hx;cases hx
        | some n=>
          rw[e] at hx
          cases hx
          obtain⟨s',hs',hss'⟩:=ats.e (1+i) n e
          rw[hss'] at hy
          cases hy
          obtain⟨v',hv',hsv'⟩:=L2R.at husJ hs'
          obtain⟨p',_,_,_,_,rfl,hp',_⟩:=hsv'
          exact⟨_,rfl,_,rfl,a,_,_,.ref p',rfl,rfl,SqT.of ((j1.trans j2) _ _ haJ),atI_nat hv',p',_,0,.str s'.nm,rfl,rfl,SqT.of ((j1.trans j2) _ _ hp'),rfl,k J2 (Same.refl _)⟩
      have j12:=j1.trans j2
      refine⟨C,_,rfl,.inl ⟨SqL.of hC2,fun t1 ht1=>?_⟩⟩
      have j3:=same_new ht1 (.tup (((ss.drop 1).map Sg.nm).map V.str))
      have hr4:=(j12.trans j3) _ _ hrJ
      refine⟨_,rfl,r',_,rfl,.inl ⟨SqL.of hr4,fun t2 ht2=>?_⟩⟩
      have j4:=same_new ht2 (.tup rus')
      refine⟨(by show 4 <= sizeLine;decide),fun t3 ht3=>?_⟩
      have j5:=same_new ht3 (.tup [.str nm,.str s0.nm,.ref t1,.ref t2])
      have jA:=j12.trans (j3.trans (j4.trans j5))
      refine q _ ⟨nm,s0.nm,(ss.drop 1).map Sg.nm,ru'⟩ ds2 _ (fun b o n h=>?_) (jA _ _ hdJ) (by omega) (by omega) (fun c hc=>hds c (List.mem_append_left _ hc)) ⟨t3,t1,t2,rus',rfl,upd_same,(j4.trans j5) _ _ upd_same,j5 _ _ upd_same,hruJ.imp fun _ _ h=>RuIs.same (sameT jA) h⟩ rfl ⟨⟨s0,hss0,rfl⟩,rfl,gru',l8⟩
      have nb:b ≠ r:=fun z=>by rw[z,r0] at h;cases h
      exact jA _ _ (kpJ b o (by simp;exact⟨by simpa using n,nb⟩) (k2 b o n h))
    · refine⟨_,rfl,.inl ⟨rfl,_,SqL.of hd'⟩,d,_,.int c,rfl,rfl,hd',by simp,?_⟩
      dsimp only
      rw[List.dropLast_concat]
      have T3:SameT H' (upd H' d (.lst (ds2.map V.int))):=sameT_lst hd'
      have kp1:Kp [d,r] H2 (upd H' d (.lst (ds2.map V.int))):=kp.upd (by simp)
      have hd3:=upd_same (H:=H') (a:=d) (o:=.lst (ds2.map V.int))
      have hr4:upd H' d (.lst (ds2.map V.int)) r=some (.lst rus):=by rw[upd_ne nrd];exact hr3
      have hru4:L2R (RuIs (upd H' d (.lst (ds2.map V.int)))) ru rus:=hru.imp fun _ _ h=>RuIs.same T3 h
      generalize upd H' d (.lst (ds2.map V.int))=G at kp1 hd3 hr4 hru4 ⊢
      refine⟨_,_,rfl,rfl,(by show (0:Int) < 2;decide),rfl,_,rfl,iteDd (fun _=>?_) (fun _=>?_)⟩
      · refine⟨_,rfl,r,_,rfl,SqL.of hr4,fun r2 hr2'=>?_⟩
        have g1:=same_new hr2' (.lst rus.reverse)
        exact hF _ _ ⟨r2,ru.reverse,rus.reverse,_,_,_,_,_,rfl,kp1.same g1,g1 _ _ hd3,upd_same,(hru4.imp fun _ _ h=>RuIs.same (sameT g1) h).rev,fun x hx=>gru x (List.mem_reverse.mp hx),by rw[List.length_reverse];omega⟩
      · exact hF _ _ ⟨r,ru,rus,_,_,_,_,_,rfl,kp1,hd3,hr4,hru4,gru,by omega⟩
end
end K35
namespace K35
open PySem L2 TR SP
open TM
theorem iteNe {c A B:Prop} [Decidable c] (h1:¬ c->A) (h2:c->B):if (!decide c)=true then A else B:=by
  by_cases h:c
  · rw[decide_eq_true h]
    exact iteF (h2 h)
  · rw[decide_eq_false h]
    exact iteT (h1 h)
def spNamed (n:Nat):Sp:=fun vs H Q _=>∃ (t:Tm) (v:V),vs=[v]/\TmIs H t v/\depth t <= n/\parts t <= 1000/\∀ p ys H',H p=none->Same H H'->H' p=some (.lst ys)->IsPs H' (named t) ys->Q (.ref p) H'
theorem ips_of {H:Hp}:∀ {ps:List Pr} {vs:List V},L2R (IsP H) ps vs->IsPs H ps vs
  | _,_,.nil=>rfl
  | _,_,.cons h r=>⟨_,_,rfl,h,ips_of r⟩
theorem l2r_kept {α:Type} {R:α->V->Prop} (pr:α->Bool):∀ {as:List α} {xs:List V},L2R R as xs->L2R R (as.filter pr) (keptBy xs (as.map pr))
  | _,_,.nil=>.nil
  | a::as,x::xs,.cons h r=>by
    have ih:=l2r_kept pr r
    unfold keptBy at ih ⊢
    rw[List.map_cons,List.zip_cons_cons,List.filterMap_cons]
    cases hp:pr a with
    | true=>
      rw[List.filter_cons_of_pos hp]
      exact .cons h ih
    | false=>
      rw[List.filter_cons_of_neg (by simp[hp])]
      exact ih
theorem ips_l2r {H:Hp}:∀ {ps:List Pr} {vs:List V},IsPs H ps vs->L2R (IsP H) ps vs
  | [],vs,h=>by
    have:vs=[]:=h
    subst this
    exact .nil
  | p::ps,vs,h=>by
    obtain⟨v,r,rfl,h1,h2⟩:=h
    exact .cons h1 (ips_l2r h2)
section
variable {P:Program} {w:World} {K:PySem.W.Frag} {mg:Str->Option Value} {base:Heap} {T:Adr}
theorem ok_lnamed (X:Tx K mg T):∀ n,FnOk P w K mg base CX0 (n+1) T.qnamed T.d_qnamed ["_law_term_here"] (spNamed n)
  | 0=>by
    have G_qnamed:FnOk P w K mg base CX0 0 T.qnamed T.d_qnamed ["_law_term_here"] (fun _ _ _ _=>False):=⟨fun _ _ _ _ h=>h.elim,fun _ _ _ _ _ _ _ _ _ _ _ _ _ h=>h.elim⟩
    refine X.F_qnamed.okQ sc_qnamed (fun vs H Q E h=>?_) (fun cdv A outer s H vs Q E hr h=>?_)
    · obtain⟨_,_,rfl,_⟩:=h
      rfl
    · obtain⟨t,_,_,_,hd,_⟩:=h
      have:=depth_pos t
      omega
  | n+1=>by
    have G_qnamed:=ok_lnamed X n
    refine X.F_qnamed.okQ sc_qnamed (fun vs H Q E h=>?_) (fun cdv A outer s H vs Q E hr h=>?_)
    · obtain⟨_,_,rfl,_⟩:=h
      rfl
    obtain⟨t,v,rfl,hv,hd,hpt,q⟩:=h
    refine⟨_,(qss_cons (qs_if (qt_cmpR op_eq (qe_ix ix_tup (qv 0) qe_int (fun _ _=>rfl)) qe_str (nomark _)) (qss_one (qs_ret (qe_lst (qaT (qe_tup (qaS (qe_ix ix_tup (qv 0) qe_int (fun _ _=>rfl)) (qaS (qe_ix ix_tup (qv 0) qe_int (fun _ _=>rfl)) qa_nil))) qa_nil)))) qss_nil) (qss_cons (qs_set (i:=1) sc_qnamed.nd rfl (Or.inr rfl) (qe_lst qa_nil)) (qss_cons (qs_if (qt_cmpR op_eq (qe_ix ix_tup (qv 0) qe_int (fun _ _=>rfl)) qe_str (nomark _)) (qss_one (qs_for PassesOwn.never rfl (qi_tup (qe_ix ix_tup (qv 0) qe_int (fun _ _=>rfl))) (qg_name (i:=2) sc_qnamed.nd rfl (Or.inl rfl)) (qss_one (qs_set (i:=1) sc_qnamed.nd rfl (Or.inr rfl) (qe_op op_cat (qv 1) (qe_comp (ys:=["_law_found"]) (js:=[1]) rfl rfl (qi_list (qe_call G_qnamed hr rfl X.m_qnamed X.F_qnamed.kp X.b_qnamed .nil pass0 (qaN (qv 2) qa_nil))) (fun _ _ _ _ _=>qif_one (qt_cmpR (op_notInDC (K:=K) rfl hr.units) (qv 0) (qv 1) rfl)) (fun _ _ _ _ _=>(qv 0)))))))) qss_nil) (qss_one (qs_ret (qv 1)))))),?_⟩
    dsimp only[cxOf]
    have hcs:(∃ (a:Addr) (z:Str) (r:List V),v=.ref a/\H a=some (.tup (.str z::r))/\decide (V.str z=V.str "of")=false/\decide (V.str z=V.str "call")=false/\named t=[])\/(∃ k z,t=.val k z)\/(∃ w ts,t=.call w ts):=by
      cases t with
      | val k z=>exact .inr (.inl ⟨k,z,rfl⟩)
      | call w ts=>exact .inr (.inr ⟨w,ts,rfl⟩)
      | num z=>
        unfold TmIs at hv
        obtain⟨a,e,ha⟩:=hv
        exact .inl ⟨a,_,_,e,ha,by decide +kernel,by decide +kernel,by rw[named]⟩
      | text z=>
        unfold TmIs at hv
        obtain⟨a,e,ha⟩:=hv
        exact .inl ⟨a,_,_,e,ha,by decide +kernel,by decide +kernel,by rw[named]⟩
      | row=>
        unfold TmIs at hv
        obtain⟨a,e,ha⟩:=hv
        exact .inl ⟨a,_,_,e,ha,by decide +kernel,by decide +kernel,by rw[named]⟩
      | mark=>
        unfold TmIs at hv
        obtain⟨a,e,ha⟩:=hv
        exact .inl ⟨a,_,_,e,ha,by decide +kernel,by decide +kernel,by rw[named]⟩
    rcases hcs with ⟨a,z,r,e,ha,h1,h2,h3⟩ | ⟨k,z,rfl⟩ | ⟨w,ts,rfl⟩
    · subst e
      refine⟨_,rfl,a,_,0,_,rfl,rfl,SqT.of ha,atI_head _ _,rfl,_,rfl,iteN h1 ?_⟩
      refine⟨(by show 0 <= sizeLine;decide),fun f hf=>?_⟩
      have s1:=same_new hf (.lst [])
      refine⟨_,rfl,a,_,0,_,rfl,rfl,SqT.of (s1 _ _ ha),atI_head _ _,rfl,_,rfl,iteN h2 ?_⟩
      refine⟨_,rfl,q f [] _ hf s1 upd_same ?_⟩
      rw[h3]
      rfl
    · unfold TmIs at hv
      obtain⟨a,rfl,ha⟩:=hv
      refine⟨_,rfl,a,_,0,_,rfl,rfl,SqT.of ha,rfl,rfl,_,rfl,iteY (by decide +kernel) ?_⟩
      refine⟨_,rfl,a,_,1,_,rfl,rfl,SqT.of ha,rfl,_,rfl,a,_,2,_,rfl,rfl,SqT.of ha,rfl,(by show 2 <= sizeLine;decide),fun p hp=>⟨(by show 1 <= sizeLine;decide),fun l hl=>?_⟩⟩
      have s1:=same_new hp (.tup [V.int k,V.str z])
      have s2:=same_new hl (.lst [V.ref p])
      refine q l _ _ (s1.free hl) (s1.trans s2) upd_same ?_
      rw[named]
      exact IsPs.one ⟨p,rfl,s2 _ _ upd_same⟩
    · unfold TmIs at hv
      obtain⟨a,b,us,rfl,ha,hb,hn,hs⟩:=hv
      refine⟨_,rfl,a,_,0,_,rfl,rfl,SqT.of ha,rfl,rfl,_,rfl,iteN (by decide +kernel) ?_⟩
      refine⟨(by show 0 <= sizeLine;decide),fun f hf=>?_⟩
      have s1:=same_new hf (.lst [])
      have hlen:=hs.len
      refine⟨_,rfl,a,_,0,_,rfl,rfl,SqT.of (s1 _ _ ha),rfl,rfl,_,rfl,iteY (by decide +kernel) ?_⟩
      refine⟨_,rfl,a,_,2,_,rfl,rfl,SqT.of (s1 _ _ ha),rfl,b,rfl,⟨_,SqT.of (s1 _ _ hb)⟩,for_tup (K:=K) (a:=b) (xs:=us) (fun i σ H'=>∃ f ys x2,σ=[some (.ref a),some (.ref f),x2]/\Same H H'/\H f=none/\H' f=some (.lst ys)/\IsPs H' ((ts.take i).foldl (fun a u=>uni a (named u)) []) ys)
        ⟨f,[],none,rfl,s1,hf,upd_same,rfl⟩ (fun i σ H' _ ⟨_,_,_,_,sm,_⟩=>SqT.of (sm _ _ hb)) ?_ ?_⟩
      · rintro i x σ H' hx ⟨f,ys,x2,rfl,sm,nf,hf',hps⟩
        obtain⟨u,hu,hux⟩:=hs.get hx
        have hmem:u ∈ inner (.call w ts):=List.mem_of_getElem? hu
        have hdu:=depth_inner hmem
        have hpu:=parts_inner hmem
        have hacc:=fold_len (.call w ts) i
        rw[show inner (.call w ts)=ts from rfl] at hacc
        have hst:(ts.take (i+1)).foldl (fun a u=>uni a (named u)) []=uni ((ts.take i).foldl (fun a u=>uni a (named u)) []) (named u):=by
          rw[take_snocA hu,List.foldl_append]
          rfl
        rw[hst,uni_filter (named_nodup u)]
        generalize (ts.take i).foldl (fun a u=>uni a (named u)) []=acc at hps hacc
        refine⟨_,rfl,_,rfl,u,x,rfl,TmIs.same (sameT sm) u hux,by omega,by omega,fun p zs H3 hp3 s3 hz3 hps3=>⟨p,rfl,⟨_,SqL.of hz3⟩,fun D nD=>?_⟩⟩
        have lz:=hps3.len
        have lnm:=named_len u
        have hf3:=s3 _ _ hf'
        have hps':=hps.same (sameT s3)
        refine comp_lstK (K:=K) (xs:=zs) ((named u).map fun p=>!decide (p ∈ acc)) (fitsL (by omega)) (by rw[List.length_map];omega) (SqL.of hz3) nD (fun j y kb G hy hk sm4 Q' q'=>?_) (fun y G Q' q'=>⟨_,rfl,q'⟩) (fun G2 s4 hD=>?_)
        · obtain⟨pr,hpr,hprv⟩:=hps3.get hy
          rw[List.getElem?_map,hpr] at hk
          cases hk
          refine⟨_,rfl,_,rfl,f,ys,daP pr,_,rfl,SqL.of (sm4 _ _ hf3),isd_P (IsP.same (sameT sm4) hprv),isds_P (hps'.same (sameT sm4)),Nat.le_trans (dep_P _) (by decide),_,rfl,?_⟩
          rw[any_P]
          exact q' _ (Same.refl _)
        · have lk:=kept_len zs ((named u).map fun p=>!decide (p ∈ acc))
          have lps:=hps.len
          have hkp:L2R (IsP G2) ((named u).filter fun p=>!decide (p ∈ acc)) (keptBy zs ((named u).map fun p=>!decide (p ∈ acc))):=l2r_kept _ (ips_l2r (hps3.same (sameT s4)))
          generalize keptBy zs ((named u).map fun p=>!decide (p ∈ acc))=ks at hD lk hkp
          refine⟨f,D,ys,ks,rfl,rfl,s4 _ _ hf3,hD,fits2 (by omega),fun f2 nf2=>?_⟩
          have s5:=same_new nf2 (.lst (ys++ks))
          refine⟨f2,_,_,rfl,sm.trans (s3.trans (s4.trans s5)),(sm.trans (s3.trans s4)).free nf2,upd_same,?_⟩
          exact ((hps'.same (sameT s4)).same (sameT s5)).app (ips_of (hkp.imp fun _ _ h=>IsP.same (sameT s5) h))
      · rintro σ H' ⟨f,ys,x2,rfl,sm,nf,hf',hps⟩
        rw[List.take_of_length_le (by omega)] at hps
        refine⟨_,rfl,q f ys H' nf sm hf' ?_⟩
        rw[named,nameds_eq]
        exact hps
end
end K35
namespace K35
open PySem L2 TR SP
open TM
theorem _root_.L2.Room.un80 {k:Nat} {A:Around} (r:Room k A):A.units+80 < cLine:=by have:=r.un;omega
noncomputable def kk (p:Pr):List Key:=[.inl p.1,.inr p.2]
theorem kk_inj {p q:Pr} (h:kk p=kk q):p=q:=by
  unfold kk at h
  injection h with h1 h2
  injection h2 with h2 _
  injection h1 with h1
  injection h2 with h2
  exact Prod.ext h1 h2
structure GO (B:Hp) (Va:Pr->Prop) (EO:Pr->List Pr->Prop) (b:Nat) (H:Hp) (xs:List (List Key × Addr × V)):Prop where
  at_:∀ x ∈ xs,∃ (p:Pr) (l:Addr) (us:List V) (es:List Pr),x.1=kk p/\x.2.2=.ref l/\H l=some (.lst us)/\L2R (IsP H) es us/\Va p/\(∀ e ∈ es,Va e)/\EO p es/\us.length <= b
  inj:∀ x ∈ xs,∀ y ∈ xs,x.2.2=y.2.2->x.1=y.1
  fr:∀ x ∈ xs,∀ l,x.2.2=.ref l->B l=none
section
variable {B:Hp} {Va:Pr->Prop} {EO:Pr->List Pr->Prop} {b:Nat} {H H':Hp} {xs:List (List Key × Addr × V)}
theorem GO.nil:GO B Va EO b H []:=⟨fun x hx=>(nomatch hx),fun x hx=>(nomatch hx),fun x hx=>(nomatch hx)⟩
theorem GO.to (g:GO B Va EO b H xs) (kl:∀ l us,H l=some (.lst us)->H' l=some (.lst us)) (kt:SameT H H'):GO B Va EO b H' xs:=⟨fun x hx=>by
  obtain⟨p,l,us,es,h1,h2,h3,h4,h5⟩:=g.at_ x hx
  exact⟨p,l,us,es,h1,h2,kl _ _ h3,h4.imp fun _ _ ⟨a,e,h⟩=>⟨a,e,kt _ _ h⟩,h5⟩,g.inj,g.fr⟩
theorem GO.same (g:GO B Va EO b H xs) (s:Same H H'):GO B Va EO b H' xs:=g.to (fun _ _ h=>s _ _ h) (sameT s)
theorem GO.pin {d:Addr} {o o':Obj} (g:GO B Va EO b H xs) (hd:H d=some (pinO d o)):GO B Va EO b (upd H d (pinO d o')) xs:=
  g.to (fun l us h=>by rw[upd_ne (fun z=>by rw[z,hd] at h;cases h)];exact h) (fun l us h=>by rw[upd_ne (fun z=>by rw[z,hd] at h;cases h)];exact h)
theorem GO.mono (g:GO B Va EO b H xs) {c:Nat} (h:b <= c):GO B Va EO c H xs:=⟨fun x hx=>by
  obtain⟨p,l,us,es,h1,h2,h3,h4,h5,h6,h7,h8⟩:=g.at_ x hx
  exact⟨p,l,us,es,h1,h2,h3,h4,h5,h6,h7,Nat.le_trans h8 h⟩,g.inj,g.fr⟩
theorem GO.put {p:Pr} {a l:Addr} {us:List V} {es:List Pr} (g:GO B Va EO b H xs) (new:∀ x ∈ xs,x.2.2 ≠ .ref l) (hl:H l=some (.lst us)) (he:L2R (IsP H) es us) (hp:Va p) (hes:∀ e ∈ es,Va e) (eo:EO p es) (hb:us.length <= b) (hB:B l=none):GO B Va EO b H (putH xs (kk p) a (.ref l)):=by
  have key:∀ x ∈ putH xs (kk p) a (.ref l),(x.1=kk p/\x.2.2=.ref l)\/(x ∈ xs):=fun x hx=>by
    unfold putH at hx
    split at hx
    · obtain⟨y,hy,rfl⟩:=List.mem_map.mp hx
      by_cases e:y.1=kk p
      · rw[if_pos e];exact .inl ⟨e,rfl⟩
      · rw[if_neg e];exact .inr hy
    · rcases List.mem_append.mp hx with h | h
      · exact .inr h
      · rw[List.mem_singleton.mp h];exact .inl ⟨rfl,rfl⟩
  refine⟨fun x hx=>?_,fun x hx y hy e=>?_,fun x hx l' hl'=>?_⟩
  · rcases key x hx with ⟨h1,h2⟩ | h
    · exact⟨p,l,us,es,h1,h2,hl,he,hp,hes,eo,hb⟩
    · exact g.at_ x h
  · rcases key x hx with ⟨h1,h2⟩ | h <;> rcases key y hy with ⟨h3,h4⟩ | h'
    · rw[h1,h3]
    · exact absurd (e.symm.trans h2) (new y h')
    · exact absurd (e.trans h4) (new x h)
    · exact g.inj x h y h' e
  · rcases key x hx with ⟨h1,h2⟩ | h
    · rw[h2] at hl';cases hl';exact hB
    · exact g.fr x h l' hl'
theorem GO.new (g:GO B Va EO b H xs) {l:Addr} (h:H l=none):∀ x ∈ xs,x.2.2 ≠ .ref l:=fun x hx z=>by
  obtain⟨_,l',us,_,_,h2,h3,_⟩:=g.at_ x hx
  rw[h2] at z
  cases z
  rw[h] at h3
  cases h3
theorem GO.get (g:GO B Va EO b H xs) {p:Pr} {v:V} (h:valH xs (kk p)=some v):∃ (l:Addr) (us:List V) (es:List Pr),v=.ref l/\H l=some (.lst us)/\L2R (IsP H) es us/\(∀ e ∈ es,Va e)/\EO p es/\us.length <= b/\∃ x ∈ xs,x.1=kk p/\x.2.2=.ref l:=by
  unfold valH at h
  obtain⟨x,hx,rfl⟩:=Option.map_eq_some_iff.mp h
  have h1:x.1=kk p:=of_decide_eq_true (List.find?_some (p:=fun x:List Key × Addr × V=>decide (x.1=kk p)) hx)
  have hm:=List.mem_of_find?_eq_some hx
  obtain⟨p',l,us,es,g1,g2,g3,g4,g5,g6,g7,g8⟩:=g.at_ x hm
  have:=kk_inj (g1.symm.trans h1)
  subst this
  exact⟨l,us,es,g2,g3,g4,g6,g7,g8,x,hm,h1,g2⟩
theorem GO.app {p:Pr} {l:Addr} {us:List V} {es:List Pr} {e:Pr} {v:V} {x:List Key × Addr × V} (g:GO B Va EO b H xs) (hx:x ∈ xs) (h1:x.1=kk p) (h2:x.2.2=.ref l) (hl:H l=some (.lst us)) (he:L2R (IsP H) es us) (hes:∀ e ∈ es,Va e) (hve:Va e) (hv:IsP H e v) (eo:EO p (es++[e])) (hb:us.length+1 <= b):GO B Va EO b (upd H l (.lst (us++[v]))) xs:=by
  have TL:SameT H (upd H l (.lst (us++[v]))):=sameT_lst hl
  refine⟨fun y hy=>?_,g.inj,g.fr⟩
  obtain⟨p',l',us',es',g1,g2,g3,g4,g5,g6,g7,g8⟩:=g.at_ y hy
  by_cases z:l'=l
  · subst z
    have e1:=g.inj x hx y hy (by rw[h2,g2])
    rw[h1,g1] at e1
    have:=kk_inj e1
    subst this
    refine⟨p,l',us++[v],es++[e],g1,g2,upd_same,((he.snoc hv).imp fun _ _ ⟨a,e,h⟩=>⟨a,e,TL _ _ h⟩),g5,fun q hq=>?_,eo,by rw[List.length_append,List.length_singleton];exact hb⟩
    rcases List.mem_append.mp hq with h | h
    · exact hes q h
    · rw[List.mem_singleton.mp h];exact hve
  · exact⟨p',l',us',es',g1,g2,by rw[upd_ne z];exact g3,g4.imp fun _ _ ⟨a,e,h⟩=>⟨a,e,TL _ _ h⟩,g5,g6,g7,g8⟩
end
theorem keys_put (xs:List (List Key × Addr × V)) (k:List Key) (a:Addr) (v:V):k ∈ (putH xs k a v).map (·.1)/\∀ j ∈ xs.map (·.1),j ∈ (putH xs k a v).map (·.1):=by
  rw[putH_keys]
  split
  · rename_i h;exact⟨h,fun j hj=>hj⟩
  · exact⟨List.mem_append_right _ (List.mem_singleton.mpr rfl),fun j hj=>List.mem_append_left _ hj⟩
def Va (sg:List Sg) (f:Fm) (p:Pr):Prop:=∃ (k:Nat) (nm:Str) (s:Sg) (q:Str × Str),(f.hd::f.br)[k]?=some nm/\s ∈ sg/\s.nm=nm/\p.1=k/\q ∈ s.dn++s.up/\p.2=q.1
def EdO (f:Fm) (rcs:List (List (Str × Str))) (p:Pr) (es:List Pr):Prop:=rcs=[]->es=[]\/∃ r ∈ f.ru,p=(r.k,r.nm)/\es=named r.tm
def RcIs (H:Hp) (rc:List (Str × Str)) (v:V):Prop:=∃ rp rus,v=.ref rp/\H rp=some (.tup rus)/\L2R (PrIs H) rc rus
theorem RcIs.same {H H':Hp} (s:SameT H H') {rc:List (Str × Str)} {v:V} (h:RcIs H rc v):RcIs H' rc v:=let ⟨rp,rus,e,h1,h2⟩:=h;⟨rp,rus,e,s _ _ h1,h2.imp fun _ _ h=>PrIs.same s h⟩
structure GrPre (sg:List Sg) (f:Fm) (rcs:List (List (Str × Str))):Prop where
  g:∀ s ∈ sg,SgG s
  l3:sg.length <= 6
  b3:f.br.length <= 3
  ru:∀ r ∈ f.ru,Va sg f (r.k,r.nm)/\(∀ p ∈ named r.tm,Va sg f p)/\depth r.tm <= 12/\parts r.tm <= 100
  r8:f.ru.length <= 8
  rc:∀ (k:Nat) (rc:List (Str × Str)),rcs[k]?=some rc->rc.length <= 4/\∀ q ∈ rc,Va sg f ((k+1:Nat),q.1)/\Va sg f ((k+1:Nat),q.2)
  lc:rcs.length <= 3
def spGraph (P:Program) (w:World):Sp:=fun vs H Q _=>∃ (gp sa l:Addr) (y v:V) (sus rvs:List V) (sg:List Sg) (f:Fm) (rcs:List (List (Str × Str))),vs=[.ref gp,v,.ref l]/\H gp=some (.tup [.ref sa,y])/\H sa=some (.tup sus)/\L2R (SgIs H) sg sus/\FmIs H f v/\H l=some (.lst rvs)/\L2R (RcIs H) rcs rvs/\GrPre sg f rcs /\
  ∀ (d:Addr) (xs:List (List Key × Addr × V)) (H':Hp),Same H H'->H d=none->DH (tupH P w) H' d xs->GO H (Va sg f) (EdO f rcs) 200 H' xs->(∀ p,Va sg f p->kk p ∈ xs.map (·.1))->xs.length <= 200->Q (.ref d) H'
section
variable {P:Program} {w:World} {K:PySem.W.Frag} {mg:Str->Option Value} {base:Heap} {T:Adr}
theorem ok_graph (X:Tx K mg T):FnOk P w K mg base CX0 14 T.qgraph T.d_qgraph ["_law_grammar", "_law_form_here", "_law_reaches"] (spGraph P w):=by
  have G_qnamed:=ok_lnamed (P:=P) (w:=w) (base:=base) X 12
  refine X.F_qgraph.okQ sc_qgraph (fun vs H Q E h=>?_) (fun cdv A outer s H vs Q E hr h=>?_)
  · obtain⟨_,_,_,_,_,_,_,_,_,_,rfl,_⟩:=h
    rfl
  obtain⟨gp,sa,l,y,v,sus,rvs,sg,f,rcs,rfl,hgp,hsa,hsg,hf,hl,hrc,pre,q⟩:=h
  refine⟨_,(qss_cons (qs_set (i:=3) sc_qgraph.nd rfl (Or.inl rfl) (qe_dnewH (κ:=tupH _ _))) (qss_cons (qs_set (i:=4) sc_qgraph.nd rfl (Or.inl rfl) (qe_op op_catA (qe_tup (qaS (qe_ix ix_tup (qv 1) qe_int (fun _ _=>rfl)) qa_nil)) (qe_ix ix_tup (qv 1) qe_int (fun _ _=>rfl)))) (qss_cons (qs_for PassesOwn.never rfl (qi_range1 rfl X.z_range (qaK (qe_callB call_len_seq rfl X.z_len PySem.boot_len (qaN (qv 4) qa_nil)) qa_nil)) (qg_name (i:=5) sc_qgraph.nd rfl (Or.inl rfl)) (qss_one (qs_for PassesOwn.never rfl (qi_tup (qe_ix ix_tup (qv 0) qe_int (fun _ _=>rfl))) (qg_name (i:=6) sc_qgraph.nd rfl (Or.inl rfl)) (qss_one (qs_if (qt_cmpR op_eq (qe_ix ix_tup (qv 6) qe_int (fun _ _=>rfl)) (qe_ix ix_tup (qv 4) (qv 5) (fun _ _=>rfl)) (nomark _)) (qss_one (qs_for PassesOwn.never rfl (qi_tup (qe_op op_catA (qe_ix ix_tup (qv 6) qe_int (fun _ _=>rfl)) (qe_ix ix_tup (qv 6) qe_int (fun _ _=>rfl)))) (qg_tup rfl (qgs_cons (qg_name (i:=7) sc_qgraph.nd rfl (Or.inl rfl)) (qgs_cons (qg_name (i:=8) sc_qgraph.nd rfl (Or.inl rfl)) qgs_nil))) (qss_one (qs_dputH (κ:=tupH _ _) hr.un80 (qv 3) (qe_tup (qaN (qv 5) (qaN (qv 7) qa_nil))) (qe_lst qa_nil))))) qss_nil))))) (qss_cons (qs_for PassesOwn.never rfl (qi_tup (qe_ix ix_tup (qv 1) qe_int (fun _ _=>rfl))) (qg_tup rfl (qgs_cons (qg_name (i:=5) sc_qgraph.nd rfl (Or.inl rfl)) (qgs_cons (qg_name (i:=7) sc_qgraph.nd rfl (Or.inl rfl)) (qgs_cons (qg_name (i:=9) sc_qgraph.nd rfl (Or.inl rfl)) qgs_nil)))) (qss_one (qs_dputH (κ:=tupH _ _) hr.un80 (qv 3) (qe_tup (qaN (qv 5) (qaN (qv 7) qa_nil))) (qe_call G_qnamed hr rfl X.m_qnamed X.F_qnamed.kp X.b_qnamed .nil pass0 (qaN (qv 9) qa_nil))))) (qss_cons (qs_for PassesOwn.never rfl (qi_range1 rfl X.z_range (qaK (qe_callB call_len_seq rfl X.z_len PySem.boot_len (qaN (qv 2) qa_nil)) qa_nil)) (qg_name (i:=5) sc_qgraph.nd rfl (Or.inl rfl)) (qss_one (qs_for PassesOwn.never rfl (qi_tup (qe_ix ix_list (qv 2) (qv 5) (fun _ _=>rfl))) (qg_tup rfl (qgs_cons (qg_name (i:=10) sc_qgraph.nd rfl (Or.inl rfl)) (qgs_cons (qg_name (i:=11) sc_qgraph.nd rfl (Or.inl rfl)) qgs_nil))) (qss_one (qs_expr (qe_bm PySem.F.plainAttrs_list PySem.F.slot_list_append PySem.F.type_list_append mt_append (qe_dgetH (κ:=tupH _ _) hr.un80 (qv 3) (qe_tup (qaB (qe_op op_add (qv 5) qe_int) (qaN (qv 11) qa_nil)))) (qaT (qe_tup (qaB (qe_op op_add (qv 5) qe_int) (qaN (qv 10) qa_nil))) qa_nil))))))) (qss_one (qs_ret (qv 3)))))))),?_⟩
  obtain⟨fp,fb,fr,fus,rfl,hfp,hfb,hfr,hru⟩:=id hf
  intro d o hd ob
  have s0:=same_new hd (pinO d o)
  have D0:=DH.new (H:=H) ob
  generalize upd H d (pinO d o)=H0 at s0 D0 ⊢
  refine⟨_,rfl,fp,_,1,.str f.hd,rfl,rfl,SqT.of (s0 _ _ hfp),rfl,(by show 1 <= sizeLine;decide),fun n1 hn1=>?_⟩
  have s1:=same_new hn1 (.tup [.str f.hd])
  have hfp1:=(s0.trans s1) _ _ hfp
  have hfb1:=(s0.trans s1) _ _ hfb
  have b3:=pre.b3
  refine⟨_,rfl,fp,_,2,.ref fb,rfl,rfl,SqT.of hfp1,rfl,n1,fb,[.str f.hd],f.br.map V.str,rfl,rfl,upd_same,hfb1,fits2 (by show 1+(f.br.map V.str).length <= 100000;rw[List.length_map];omega),fun n2 H1 s2 hn2=>?_⟩
  have sA:=s0.trans (s1.trans s2)
  have D1:=D0.same (s1.trans s2)
  have hn2:H1 n2=some (.tup ((f.hd::f.br).map V.str)):=hn2
  have lnm:((f.hd::f.br).map V.str).length=f.br.length+1:=by rw[List.length_map];rfl
  refine⟨_,rfl,n2,_,rfl,.inr (SqT.of hn2),_,rfl,by omega,by omega,?_⟩
  have E0:∀ p,EdO f rcs p []:=fun p _=>.inl rfl
  refine for_range (n:=(((f.hd::f.br).map V.str).length:Int).toNat) (fun i σ H'=>∃ (xs:List (List Key × Addr × V)) (x5 x6 x7 x8 x9 x10 x11:Option V),σ=[some (.ref gp),some (.ref fp),some (.ref l),some (.ref d),some (.ref n2),x5,x6,x7,x8,x9,x10,x11]/\Same H H'/\H' n2=some (.tup ((f.hd::f.br).map V.str))/\DH (tupH P w) H' d xs/\GO H (Va sg f) (EdO f rcs) 100 H' xs/\xs.length <= 24 * i/\∀ (k:Nat) (nm:Str) (s:Sg) (q:Str × Str),k < i->(f.hd::f.br)[k]?=some nm->s ∈ sg->s.nm=nm->q ∈ s.dn++s.up->kk ((k:Int),q.1) ∈ xs.map (·.1))
    ⟨[],none,none,none,none,none,none,none,rfl,sA,hn2,D1,.nil,Nat.le_refl _,fun k _ _ _ h=>absurd h (Nat.not_lt_zero k)⟩ ?_ ?_
  · rintro i σ H' hi ⟨xs,x5,x6,x7,x8,x9,x10,x11,rfl,sm,hn',DD,gg,lx,kx⟩
    have hi:i < f.br.length+1:=by omega
    have e0:(0+(i:Int))=(i:Int):=by omega
    obtain⟨nm,hnm⟩:=some_of_lt (xs:=f.hd::f.br) (i:=i) (by show i < f.br.length+1;exact hi)
    refine⟨_,rfl,gp,_,0,.ref sa,rfl,rfl,SqT.of (sm _ _ hgp),rfl,sa,rfl,⟨_,SqT.of (sm _ _ hsa)⟩,?_⟩
    have lsg:=hsg.len
    have l6:=pre.l3
    refine for_tup (K:=K) (a:=sa) (xs:=sus) (fun j σ H2=>∃ (ys:List (List Key × Addr × V)) (y6 y7 y8 y9 y10 y11:Option V),σ=[some (.ref gp),some (.ref fp),some (.ref l),some (.ref d),some (.ref n2),some (.int (0+(i:Int))),y6,y7,y8,y9,y10,y11]/\Same H H2/\H2 n2=some (.tup ((f.hd::f.br).map V.str))/\DH (tupH P w) H2 d ys/\GO H (Va sg f) (EdO f rcs) 100 H2 ys/\ys.length <= 24 * i+4 * j/\(∀ k ∈ xs.map (·.1),k ∈ ys.map (·.1))/\∀ (s:Sg) (q:Str × Str),s ∈ sg.take j->s.nm=nm->q ∈ s.dn++s.up->kk ((i:Int),q.1) ∈ ys.map (·.1))
      ⟨xs,_,_,_,_,_,_,rfl,sm,hn',DD,gg,by omega,fun k h=>h,fun s q h=>by simp at h⟩ (fun j σ H2 _ ⟨_,_,_,_,_,_,_,_,s2,_⟩=>SqT.of (s2 _ _ hsa)) ?_ ?_
    · rintro j v2 σ H2 hv2 ⟨ys,y6,y7,y8,y9,y10,y11,rfl,sm2,hn2',DD2,gg2,ly,ky,kz⟩
      obtain⟨s,hs,p,da,ua,dus,uus,rfl,hp,hda,hdn,hua,hup⟩:=hsg.get hv2
      have hsm:=List.mem_of_getElem? hs
      have gs:=pre.g s hsm
      have hjl:=lt_of_some hs
      refine⟨_,rfl,p,_,0,.str s.nm,rfl,rfl,SqT.of (sm2 _ _ hp),rfl,_,rfl,_,rfl,n2,_,_,.str nm,rfl,rfl,SqT.of hn2',by rw[e0];exact atI_nat (by rw[List.getElem?_map,hnm];rfl),rfl,_,rfl,iteDd (fun e=>?_) (fun e=>?_)⟩
      · have e:s.nm=nm:=V.str.inj e
        refine⟨_,rfl,p,_,1,.ref da,rfl,rfl,SqT.of (sm2 _ _ hp),rfl,_,rfl,p,_,2,.ref ua,rfl,rfl,SqT.of (sm2 _ _ hp),rfl,da,ua,dus,uus,rfl,rfl,sm2 _ _ hda,sm2 _ _ hua,fits2 (by rw[hdn.len,hup.len];have:=gs.ld;have:=gs.lu;omega),fun c H3 s3 hc=>?_⟩
        refine⟨c,rfl,⟨_,SqT.of hc⟩,?_⟩
        have hpr:L2R (PrIs H) (s.dn++s.up) (dus++uus):=hdn.app hup
        have lpr:=hpr.len
        have l4:(s.dn++s.up).length <= 4:=by rw[List.length_append];have:=gs.ld;have:=gs.lu;omega
        refine for_tup (K:=K) (a:=c) (xs:=dus++uus) (fun m σ H4=>∃ (zs:List (List Key × Addr × V)) (z7 z8 z9 z10 z11:Option V),σ=[some (.ref gp),some (.ref fp),some (.ref l),some (.ref d),some (.ref n2),some (.int (0+(i:Int))),some (.ref p),z7,z8,z9,z10,z11]/\Same H H4/\H4 c=some (.tup (dus++uus))/\H4 n2=some (.tup ((f.hd::f.br).map V.str))/\DH (tupH P w) H4 d zs/\GO H (Va sg f) (EdO f rcs) 100 H4 zs/\zs.length <= 24 * i+4 * j+m/\(∀ k ∈ ys.map (·.1),k ∈ zs.map (·.1))/\∀ q ∈ (s.dn++s.up).take m,kk ((i:Int),q.1) ∈ zs.map (·.1))
          ⟨ys,_,_,_,_,_,rfl,sm2.trans s3,hc,s3 _ _ hn2',DD2.same s3,gg2.same s3,by omega,fun k h=>h,fun q h=>by simp at h⟩ (fun m σ H4 _ ⟨_,_,_,_,_,_,_,_,h,_⟩=>SqT.of h) ?_ ?_
        · rintro m v5 σ H4 hv5 ⟨zs,z7,z8,z9,z10,z11,rfl,sm4,hc4,hn4,DD4,gg4,lz,kz4,kq⟩
          obtain⟨q5,hq5,p5,rfl,hp5⟩:=hpr.get hv5
          have hm4:=lt_of_some hq5
          refine⟨p5,_,rfl,SqT.of (sm4 _ _ hp5),rfl,_,_,rfl,_,_,rfl,rfl,?_⟩
          refine⟨(by show 0 <= sizeLine;decide),fun w1 hw1=>?_⟩
          have t1:=same_new hw1 (.lst [])
          refine⟨_,rfl,_,rfl,_,rfl,(by show 2 <= sizeLine;decide),fun w2 hw2=>?_⟩
          have t2:=same_new hw2 (.tup [.int (0+(i:Int)),.str q5.1])
          have DD5:=DD4.same (t1.trans t2)
          have gg5:=gg4.same (t1.trans t2)
          have hw1':=t2 _ _ (upd_same (H:=H4) (a:=w1) (o:=.lst []))
          have hk:(tupH P w).key (upd (upd H4 w1 (.lst [])) w2 (.tup [.int (0+(i:Int)),.str q5.1])) (kk ((i:Int),q5.1)) w2:=by show _=some (HO.tup ((kk ((i:Int),q5.1)).map kV));rw[upd_same,e0];rfl
          have hc5:=(t1.trans t2) _ _ hc4
          have hn5:=(t1.trans t2) _ _ hn4
          have sm5:=sm4.trans (t1.trans t2)
          have nw:=gg4.new hw1
          generalize upd (upd H4 w1 (.lst [])) w2 (.tup [.int (0+(i:Int)),.str q5.1])=H5 at DD5 gg5 hw1' hk hc5 hn5 sm5 ⊢
          have va:Va sg f ((i:Int),q5.1):=⟨i,nm,s,q5,hnm,hsm,e,rfl,List.mem_of_getElem? hq5,rfl⟩
          have gg6:=gg5.put (a:=w2) nw hw1' .nil va (fun e h=>nomatch h) (E0 _) (Nat.zero_le _) (sm4.free hw1)
          obtain⟨k1,k2⟩:=keys_put zs (kk ((i:Int),q5.1)) w2 (.ref w1)
          refine⟨d,w2,zs,_,rfl,rfl,DD5,hk,Nat.lt_of_le_of_lt (show zs.length <= 1000 by omega) (by decide),fun o' ob'=>?_⟩
          obtain⟨⟨o5,ho5,_⟩,_⟩:=id DD5
          have len:=putH_len zs (kk ((i:Int),q5.1)) w2 (.ref w1)
          refine⟨_,_,_,_,_,_,rfl,same_upd hd sm5,by rw[upd_ne (ne_of hc5 ho5 (fun z=>nomatch z))];exact hc5,by rw[upd_ne (ne_of hn5 ho5 (fun z=>nomatch z))];exact hn5,DD5.put hk ob',gg6.pin ho5,by omega,fun k hk'=>k2 _ (kz4 k hk'),fun q hq=>?_⟩
          rw[take_snocA hq5] at hq
          rcases List.mem_append.mp hq with h | h
          · exact k2 _ (kq q h)
          · rw[List.mem_singleton.mp h];exact k1
        · rintro σ H4 ⟨zs,z7,z8,z9,z10,z11,rfl,sm4,hc4,hn4,DD4,gg4,lz,kz4,kq⟩
          rw[List.take_of_length_le (by omega)] at kq
          refine⟨zs,_,_,_,_,_,_,rfl,sm4,hn4,DD4,gg4,by omega,fun k h=>kz4 k (ky k h),fun s' q hs' e' hq=>?_⟩
          rw[take_snocA hs] at hs'
          rcases List.mem_append.mp hs' with h | h
          · exact kz4 _ (kz s' q h e' hq)
          · rw[List.mem_singleton.mp h] at hq
            exact kq q hq
      · refine⟨ys,_,_,_,_,_,_,rfl,sm2,hn2',DD2,gg2,by omega,ky,fun s' q hs' e' hq=>?_⟩
        rw[take_snocA hs] at hs'
        rcases List.mem_append.mp hs' with h | h
        · exact kz s' q h e' hq
        · rw[List.mem_singleton.mp h] at e'
          exact absurd (by rw[e']) e
    · rintro σ H2 ⟨ys,y6,y7,y8,y9,y10,y11,rfl,sm2,hn2',DD2,gg2,ly,ky,kz⟩
      rw[List.take_of_length_le (by omega)] at kz
      refine⟨ys,_,_,_,_,_,_,_,rfl,sm2,hn2',DD2,gg2,by omega,fun k nm' s q hk hnm' hs e hq=>?_⟩
      rcases Nat.lt_succ_iff_lt_or_eq.mp hk with hk | rfl
      · exact ky _ (kx k nm' s q hk hnm' hs e hq)
      · rw[hnm] at hnm'
        cases hnm'
        exact kz s q hs e hq
  · rintro σ H' ⟨xs,x5,x6,x7,x8,x9,x10,x11,rfl,sm,hn',DD,gg,lx,kx⟩
    have allk:∀ p,Va sg f p->kk p ∈ xs.map (·.1):=fun p ⟨k,nm,s,q,h1,h2,h3,h4,h5,h6⟩=>by
      have:=kx k nm s q (by have:=lt_of_some h1;rw[List.length_cons] at this;omega) h1 h2 h3 h5
      rw[show p=((k:Int),q.1) from Prod.ext h4 h6]
      exact this
    have l96:xs.length <= 96:=by omega
    clear kx lx
    refine⟨_,rfl,fp,_,3,.ref fr,rfl,rfl,SqT.of (sm _ _ hfp),rfl,fr,rfl,⟨_,SqT.of (sm _ _ hfr)⟩,?_⟩
    have lru:=hru.len
    have r8:=pre.r8
    refine for_tup (K:=K) (a:=fr) (xs:=fus) (fun j σ H2=>∃ (ys:List (List Key × Addr × V)) (y5 y6 y7 y8 y9 y10 y11:Option V),σ=[some (.ref gp),some (.ref fp),some (.ref l),some (.ref d),some (.ref n2),y5,y6,y7,y8,y9,y10,y11]/\Same H H2/\DH (tupH P w) H2 d ys/\GO H (Va sg f) (EdO f rcs) 100 H2 ys/\ys.length <= 96+j/\∀ p,Va sg f p->kk p ∈ ys.map (·.1))
      ⟨xs,_,_,_,_,_,_,_,rfl,sm,DD,gg,l96,allk⟩ (fun j σ H2 _ ⟨_,_,_,_,_,_,_,_,_,s2,_⟩=>SqT.of (s2 _ _ hfr)) ?_ ?_
    · rintro j v2 σ H2 hv2 ⟨ys,y5,y6,y7,y8,y9,y10,y11,rfl,sm2,DD2,gg2,ly,ky⟩
      obtain⟨r,hr2,p,u,rfl,hp,hu⟩:=hru.get hv2
      have hrm:=List.mem_of_getElem? hr2
      obtain⟨v1,v2,v3,v4⟩:=pre.ru r hrm
      have hj:=lt_of_some hr2
      refine⟨p,_,rfl,SqT.of (sm2 _ _ hp),rfl,_,_,rfl,_,_,rfl,_,_,rfl,rfl,?_⟩
      refine⟨_,rfl,r.tm,u,rfl,TmIs.same (sameT sm2) r.tm hu,v3,by omega,fun w1 us H3 hw1 s3 hl3 his=>?_⟩
      have hes:=ips_l2r his
      have lus:us.length <= 100:=by rw[hes.len];have:=named_len r.tm;omega
      refine⟨_,rfl,_,rfl,_,rfl,(by show 2 <= sizeLine;decide),fun w2 hw2=>?_⟩
      have t2:=same_new hw2 (.tup [.int r.k,.str r.nm])
      have DD5:=DD2.same (s3.trans t2)
      have gg5:=gg2.same (s3.trans t2)
      have hw1':=t2 _ _ hl3
      have hes5:L2R (IsP (upd H3 w2 (.tup [.int r.k,.str r.nm]))) (named r.tm) us:=hes.imp fun _ _ ⟨a,e,h⟩=>⟨a,e,t2 _ _ h⟩
      have hk:(tupH P w).key (upd H3 w2 (.tup [.int r.k,.str r.nm])) (kk (r.k,r.nm)) w2:=by show _=some (HO.tup ((kk (r.k,r.nm)).map kV));rw[upd_same];rfl
      have sm5:=sm2.trans (s3.trans t2)
      have nw:=gg2.new hw1
      generalize upd H3 w2 (.tup [.int r.k,.str r.nm])=H5 at DD5 gg5 hw1' hes5 hk sm5 ⊢
      have gg6:=gg5.put (a:=w2) nw hw1' hes5 v1 v2 (fun _=>.inr ⟨r,hrm,rfl,rfl⟩) lus (sm2.free hw1)
      obtain⟨k1,k2⟩:=keys_put ys (kk (r.k,r.nm)) w2 (.ref w1)
      refine⟨d,w2,ys,_,rfl,rfl,DD5,hk,Nat.lt_of_le_of_lt (show ys.length <= 1000 by omega) (by decide),fun o' ob'=>?_⟩
      obtain⟨⟨o5,ho5,_⟩,_⟩:=id DD5
      have len:=putH_len ys (kk (r.k,r.nm)) w2 (.ref w1)
      exact⟨_,_,_,_,_,_,_,_,rfl,same_upd hd sm5,DD5.put hk ob',gg6.pin ho5,by omega,fun p hp=>k2 _ (ky p hp)⟩
    · rintro σ H2 ⟨ys,y5,y6,y7,y8,y9,y10,y11,rfl,sm2,DD2,gg2,ly,ky⟩
      have lrv:=hrc.len
      have lc:=pre.lc
      refine⟨_,rfl,l,_,rfl,.inl (SqL.of (sm2 _ _ hl)),_,rfl,by omega,by omega,?_⟩
      refine for_range (n:=((rvs.length:Int)).toNat) (fun i σ H3=>∃ (z5 z6 z7 z8 z9 z10 z11:Option V),σ=[some (.ref gp),some (.ref fp),some (.ref l),some (.ref d),some (.ref n2),z5,z6,z7,z8,z9,z10,z11]/\Same H H3/\DH (tupH P w) H3 d ys/\GO H (Va sg f) (EdO f rcs) (100+4 * i) H3 ys) ⟨_,_,_,_,_,_,_,rfl,sm2,DD2,gg2⟩ ?_ ?_
      · rintro i σ H3 hi ⟨z5,z6,z7,z8,z9,z10,z11,rfl,sm3,DD3,gg3⟩
        have hi:i < rvs.length:=by omega
        have e0:(0+(i:Int))=(i:Int):=by omega
        obtain⟨v3,hv3⟩:=some_of_lt hi
        obtain⟨rc,hrc3,rp,rus,rfl,hrp,hrus⟩:=hrc.get hv3
        obtain⟨l4,hva⟩:=pre.rc i rc hrc3
        have lrus:=hrus.len
        have ne:rcs ≠ []:=fun z=>by rw[z] at hrc3;cases hrc3
        refine⟨_,rfl,_,rfl,l,_,_,.ref rp,rfl,rfl,SqL.of (sm3 _ _ hl),by rw[e0];exact atI_nat hv3,rp,rfl,⟨_,SqT.of (sm3 _ _ hrp)⟩,?_⟩
        refine for_tup (K:=K) (a:=rp) (xs:=rus) (fun m σ H4=>∃ (z6 z7 z8 z9 z10 z11:Option V),σ=[some (.ref gp),some (.ref fp),some (.ref l),some (.ref d),some (.ref n2),some (.int (0+(i:Int))),z6,z7,z8,z9,z10,z11]/\Same H H4/\DH (tupH P w) H4 d ys/\GO H (Va sg f) (EdO f rcs) (100+4 * i+m) H4 ys) ⟨_,_,_,_,_,_,rfl,sm3,DD3,gg3⟩ (fun m σ H4 _ ⟨_,_,_,_,_,_,_,s4,_⟩=>SqT.of (s4 _ _ hrp)) ?_ ?_
        · rintro m v4 σ H4 hv4 ⟨z6,z7,z8,z9,z10,z11,rfl,sm4,DD4,gg4⟩
          obtain⟨q,hq,p,rfl,hp⟩:=hrus.get hv4
          have hm:=lt_of_some hq
          obtain⟨va1,va2⟩:=hva q (List.mem_of_getElem? hq)
          have e1:(0+(i:Int))+1=((i+1:Nat):Int):=by omega
          refine⟨p,_,rfl,SqT.of (sm4 _ _ hp),rfl,_,_,rfl,_,_,rfl,rfl,?_⟩
          refine⟨_,rfl,_,rfl,_,_,rfl,rfl,_,rfl,(by show 2 <= sizeLine;decide),fun w1 hw1=>?_⟩
          have t1:=same_new hw1 (.tup [.int (0+(i:Int)+1),.str q.2])
          have hk:(tupH P w).key (upd H4 w1 (.tup [.int (0+(i:Int)+1),.str q.2])) (kk (((i+1:Nat):Int),q.2)) w1:=by show _=some (HO.tup ((kk (((i+1:Nat):Int),q.2)).map kV));rw[upd_same,e1];rfl
          have DD5:=DD4.same t1
          have gg5:=gg4.same t1
          obtain⟨v,hv⟩:=Option.isSome_iff_exists.mp ((valH_isSome ys (kk (((i+1:Nat):Int),q.2))).mpr (ky _ va2))
          have sm5:=sm4.trans t1
          generalize upd H4 w1 (.tup [.int (0+(i:Int)+1),.str q.2])=H5 at hk DD5 gg5 sm5 ⊢
          obtain⟨wl,us,es,rfl,hwl,hes,hves,heo,hlen,x,hx,hx1,hx2⟩:=gg5.get hv
          refine⟨d,w1,ys,_,_,rfl,rfl,DD5,hk,hv,.inl ⟨rfl,_,SqL.of hwl⟩,_,rfl,_,_,rfl,rfl,_,rfl,(by show 2 <= sizeLine;decide),fun w2 hw2=>?_⟩
          have t2:=same_new hw2 (.tup [.int (0+(i:Int)+1),.str q.1])
          have hwl6:=t2 _ _ hwl
          have hw2':=upd_same (H:=H5) (a:=w2) (o:=.tup [.int (0+(i:Int)+1),.str q.1])
          have DD6:=DD5.same t2
          have gg6:=(gg5.same t2).mono (show 100+4 * i+m <= 100+4 * i+(m+1) by omega)
          have hes6:L2R (IsP (upd H5 w2 (.tup [.int (0+(i:Int)+1),.str q.1]))) es us:=hes.imp fun _ _ ⟨a,e,h⟩=>⟨a,e,t2 _ _ h⟩
          have sm6:=sm5.trans t2
          generalize upd H5 w2 (.tup [.int (0+(i:Int)+1),.str q.1])=H6 at hwl6 hw2' DD6 gg6 hes6 sm6 ⊢
          have gg7:=gg6.app (e:=(((i+1:Nat):Int),q.1)) (v:=.ref w2) hx hx1 hx2 hwl6 hes6 hves va1 ⟨w2,rfl,by rw[hw2',e1]⟩ (fun z=>absurd z ne) (by omega)
          refine⟨wl,us,_,rfl,rfl,hwl6,fitsL (by omega),_,_,_,_,_,_,rfl,?_,?_,gg7⟩
          · exact same_upd (gg6.fr x hx wl hx2) sm6
          · refine DD6.to (fun b ys' h=>?_) ?_
            · rw[upd_ne (fun z=>by rw[z,hwl6] at h;cases h)];exact h
            · obtain⟨⟨o5,ho5,_⟩,_⟩:=id DD6
              rw[upd_ne (fun z=>by rw[z,hwl6] at ho5;cases ho5)]
        · rintro σ H4 ⟨z6,z7,z8,z9,z10,z11,rfl,sm4,DD4,gg4⟩
          exact⟨_,_,_,_,_,_,_,rfl,sm4,DD4,gg4.mono (by omega)⟩
      · rintro σ H3 ⟨z5,z6,z7,z8,z9,z10,z11,rfl,sm3,DD3,gg3⟩
        exact⟨_,rfl,q d ys H3 sm3 hd DD3 (gg3.mono (by omega)) ky (by omega)⟩
end
end K35
namespace K35
open PySem L2 TR SP
open TM
theorem nd_sub {α:Type} [DecidableEq α]:∀ {l m:List α},l.Nodup->(∀ x ∈ l,x ∈ m)->l.length <= m.length
  | [],_,_,_=>Nat.zero_le _
  | x::l,m,h,hs=>by
    obtain⟨h1,h2⟩:=List.nodup_cons.mp h
    have hx:=hs x List.mem_cons_self
    have:=nd_sub (m:=m.erase x) h2 fun y hy=>(List.mem_erase_of_ne (fun z=>h1 (by rw[<- z];exact hy))).mpr (hs y (List.mem_cons_of_mem _ hy))
    rw[List.length_erase_of_mem hx] at this
    have:0 < m.length:=List.length_pos_of_mem hx
    rw[List.length_cons]
    omega
theorem valH_mem {xs:List (List Key × Addr × V)} (nd:(xs.map (·.1)).Nodup) {x:List Key × Addr × V} (hx:x ∈ xs):valH xs x.1=some x.2.2:=by
  induction xs with
  | nil=>exact nomatch hx
  | cons y xs ih=>
    rw[List.map_cons] at nd
    obtain⟨h1,h2⟩:=List.nodup_cons.mp nd
    rw[valH_cons]
    rcases List.mem_cons.mp hx with rfl | h
    · rw[if_pos rfl]
    · rw[if_neg (fun z=>h1 (by rw[z];exact List.mem_map.mpr ⟨x,h,rfl⟩))]
      exact ih h2 h
theorem l2r_unsnoc {α:Type} {R:α->V->Prop}:∀ {us:List V} {v:V} {es:List α},L2R R es (us++[v])->∃ es' e,es=es'++[e]/\L2R R es' us/\R e v
  | [],v,es,h=>by
    cases h with
    | cons h1 h2=>cases h2;exact⟨[],_,rfl,.nil,h1⟩
  | u::us,v,es,h=>by
    cases h with
    | cons h1 h2=>
      obtain⟨es',e,rfl,h3,h4⟩:=l2r_unsnoc h2
      exact⟨_::es',e,rfl,.cons h1 h3,h4⟩
def EdR (H:Hp) (xs:List (List Key × Addr × V)) (p:Pr) (es:List Pr):Prop:=∃ l us,valH xs (kk p)=some (.ref l)/\H l=some (.lst us)/\L2R (IsP H) es us
def Nr (H:Hp) (xs:List (List Key × Addr × V)) (p q:Pr):Prop:=∀ S:Pr->Prop,(∀ q es,S q->EdR H xs q es->∀ e ∈ es,S e)->(∀ es,EdR H xs p es->∀ e ∈ es,S e)->S q
def SeO (P:Program) (w:World) (H0:Hp) (xs:List (List Key × Addr × V)) (H:Hp) (y:List Key × Addr × V):Prop:=∃ (p:Pr) (sd:Addr) (zs:List (List Key × Addr × V)),y.1=kk p/\y.2.2=.ref sd/\DH (tupH P w) H sd zs/\∀ z ∈ zs,∃ q,z.1=kk q/\Nr H0 xs p q
theorem SeO.same {P:Program} {w:World} {H0 H H':Hp} {xs:List (List Key × Addr × V)} {y:List Key × Addr × V} (s:Same H H') (h:SeO P w H0 xs H y):SeO P w H0 xs H' y:=let ⟨p,sd,zs,h1,h2,h3,h4⟩:=h;⟨p,sd,zs,h1,h2,h3.same s,h4⟩
theorem ips_fun {H:Hp}:∀ {es es':List Pr} {us:List V},L2R (IsP H) es us->L2R (IsP H) es' us->es=es'
  | [],es',us,h,g=>by
    cases h
    cases g
    rfl
  | e::es,es',us,h,g=>by
    cases h with
    | cons h1 h2=>
      cases g with
      | cons g1 g2=>
        obtain⟨a,e1,h1⟩:=h1
        obtain⟨b,e2,g1⟩:=g1
        rw[e1] at e2
        cases e2
        rw[h1] at g1
        have:[V.int e.1,V.str e.2]=_:=HO.tup.inj (Option.some.inj g1)
        injection this with z1 z2
        injection z2 with z2 _
        injection z1 with z1
        injection z2 with z2
        rw[ips_fun h2 g2]
        congr 1
        exact Prod.ext z1 z2
def spHang (P:Program) (w:World):Sp:=fun vs H Q _=>∃ (d:Addr) (xs:List (List Key × Addr × V)) (B:Hp) (va:Pr->Prop) (EO:Pr->List Pr->Prop),vs=[.ref d]/\DH (tupH P w) H d xs/\GO B va EO 200 H xs/\(∀ p,va p->kk p ∈ xs.map (·.1))/\xs.length <= 200 /\
  ∀ (f:Addr) (ys:List (List Key × Addr × V)) (H':Hp),Same H H'->H f=none->DH (tupH P w) H' f ys->ys.map (·.1)=xs.map (·.1)->(∀ y ∈ ys,SeO P w H xs H' y)->Q (.ref f) H'
section
variable {P:Program} {w:World} {K:PySem.W.Frag} {mg:Str->Option Value} {base:Heap} {T:Adr}
theorem ok_hang (X:Tx K mg T):FnOk P w K mg base CX0 1 T.qhang T.d_qhang ["_law_graph_here"] (spHang P w):=by
  refine X.F_qhang.okQ sc_qhang (fun vs H Q E h=>?_) (fun cdv A outer s H vs Q E hr h=>?_)
  · obtain⟨_,_,_,_,_,rfl,_⟩:=h
    rfl
  obtain⟨d,xs,B,va,EO,rfl,DD,gg,allk,l200,q⟩:=h
  refine⟨_,(qss_cons (qs_set (i:=1) sc_qhang.nd rfl (Or.inl rfl) (qe_dnewH (κ:=tupH _ _))) (qss_cons (qs_for PassesOwn.never rfl (qi_keysH (κ:=tupH _ _) (qv 0)) (qg_name (i:=2) sc_qhang.nd rfl (Or.inl rfl)) (qss_cons (qs_set (i:=3) sc_qhang.nd rfl (Or.inl rfl) (qe_dnewH (κ:=tupH _ _))) (qss_cons (qs_set (i:=4) sc_qhang.nd rfl (Or.inl rfl) (qe_callTy call_list_of rfl X.z_list PyProof.Rows.boot_list (qaS (qe_dgetH (κ:=tupH _ _) hr.un80 (qv 0) (qv 2)) qa_nil))) (qss_cons (qs_while PassesOwn.never (qt_cmpR (op_neNil hr.units) (qv 4) (qe_lst qa_nil) (nomark _)) (qss_cons (qs_set (i:=5) sc_qhang.nd rfl (Or.inl rfl) (qe_bm0 PySem.F.plainAttrs_list PySem.F.slot_list_pop PySem.F.type_list_pop mt_pop (qv 4))) (qss_one (qs_if (qt_cmpR (op_notInH (κ:=tupH _ _) hr.un80) (qv 5) (qv 3) rfl) (qss_cons (qs_dputH (κ:=tupH _ _) hr.un80 (qv 3) (qv 5) qe_bl) (qss_one (qs_set (i:=4) sc_qhang.nd rfl (Or.inl rfl) (qe_op op_cat (qv 4) (qe_dgetH (κ:=tupH _ _) hr.un80 (qv 0) (qv 5)))))) qss_nil)))) (qss_one (qs_dputH (κ:=tupH _ _) hr.un80 (qv 1) (qv 2) (qv 3))))))) (qss_one (qs_ret (qv 1))))),?_⟩
  intro f o hf ob
  have s0:=same_new hf (pinO f o)
  have F0:=DH.new (H:=H) ob
  generalize upd H f (pinO f o)=H0 at s0 F0 ⊢
  refine⟨_,rfl,d,xs,rfl,DD.same s0,fun od hod=>?_⟩
  have kxs:=DD.2
  refine for_keys (d:=d) (o:=od) (ks:=xs.map (·.2.1)) (fun i σ H'=>∃ (ys:List (List Key × Addr × V)) (x2 x3 x4 x5:Option V),σ=[some (.ref d),some (.ref f),x2,x3,x4,x5]/\Same H H'/\H' d=some (pinO d od)/\DH (tupH P w) H' f ys/\ys.map (·.1)=(xs.take i).map (·.1)/\∀ y ∈ ys,SeO P w H xs H' y/\y.2.2 ≠ .ref f)
    ⟨[],none,none,none,none,rfl,s0,hod,F0,rfl,fun y hy=>nomatch hy⟩ (fun i σ H' _ ⟨_,_,_,_,_,_,_,h,_⟩=>h) ?_ ?_
  · rintro i a σ H1 ha ⟨ys,x2,x3,x4,x5,rfl,sm,hod1,FF,ky,sy⟩
    rw[List.getElem?_map] at ha
    cases ex:xs[i]? with
    | none=>rw[ex] at ha;cases ha
    | some x=>
    rw[ex] at ha
    cases ha
    have hxm:=List.mem_of_getElem? ex
    obtain⟨p,l,us,es,h1,h2,h3,h4,h5,h6,h7,h8⟩:=gg.at_ x hxm
    intro sd osd hsd obs
    have t0:=same_new hsd (pinO sd osd)
    have S0:=DH.new (H:=H1) obs
    have smA:=sm.trans t0
    have FF0:=FF.same t0
    have hod2:=t0 _ _ hod1
    generalize upd H1 sd (pinO sd osd)=H2 at t0 S0 smA FF0 hod2 ⊢
    have hkx:(tupH P w).key H2 (kk p) x.2.1:=by rw[<- h1];exact (tupH P w).same (fun b ys e=>smA _ _ e) (kxs x hxm)
    have hvx:valH xs (kk p)=some (.ref l):=by rw[<- h1,<- h2];exact valH_mem DD.nodup hxm
    refine⟨_,rfl,_,rfl,d,_,xs,_,_,rfl,rfl,DD.same smA,hkx,hvx,?_⟩
    refine⟨l,us,rfl,.inl (SqL.of (smA _ _ h3)),fun L hL=>?_⟩
    have t1:=same_new hL (.lst us)
    have hsd1:H1 sd=none:=hsd
    have hL1:H1 L=none:=t0.free hL
    have hNr:∀ e ∈ es,va e/\Nr H xs p e:=fun e he=>⟨h6 e he,fun S _ hS=>hS es ⟨l,us,hvx,h3,h4⟩ e he⟩
    have edge:∀ (r:Pr) (es':List Pr) (l':Addr) (us':List V),valH xs (kk r)=some (.ref l')->H l'=some (.lst us')->L2R (IsP H) es' us'->Nr H xs p r->∀ e ∈ es',Nr H xs p e:=fun r es' l' us' a b c n e he S hS hp=>hS r es' (n S hS hp) ⟨l',us',a,b,c⟩ e he
    refine⟨fun m σ H'=>∃ (L:Addr) (vs:List V) (fs:List Pr) (zs:List (List Key × Addr × V)) (x5:Option V),m=201 * (xs.length - zs.length)+vs.length/\m <= 41000/\σ=[some (.ref d),some (.ref f),some (.ref x.2.1),some (.ref sd),some (.ref L),x5]/\Same H1 H'/\H1 L=none/\H' L=some (.lst vs)/\L2R (IsP H') fs vs/\(∀ e ∈ fs,va e/\Nr H xs p e)/\DH (tupH P w) H' sd zs/\(∀ z ∈ zs,∃ r,z.1=kk r/\va r/\Nr H xs p r),⟨_,L,us,es,[],_,rfl,by show 201 * (xs.length - 0)+us.length <= 41000;omega,rfl,t0.trans t1,hL1,upd_same,h4.imp fun _ _ ⟨a,e,h⟩=>⟨a,e,(smA.trans t1) _ _ h⟩,hNr,S0.same t1,fun z hz=>nomatch hz⟩,?_⟩
    rintro m σ H4 ⟨L,vs,fs,zs,x5,rfl,hm,rfl,sm4,hL4,hLv,hfs,hfr,SD,hzs⟩
    refine⟨_,rfl,(by show 0 <= sizeLine;decide),fun e0 he0=>?_⟩
    have t2:=same_new he0 (.lst [])
    refine⟨L,e0,vs,rfl,rfl,SqL.of (t2 _ _ hLv),SqL.of upd_same,_,rfl,iteNe (fun hne=>⟨_,fun σ' H'' h=>h,?_⟩) (fun hem=>?_)⟩
    · have hLv5:=t2 _ _ hLv
      have SD5:=SD.same t2
      have sm5:=sm4.trans t2
      have hfs5:L2R (IsP (upd H4 e0 (.lst []))) fs vs:=hfs.imp fun _ _ ⟨a,e,h⟩=>⟨a,e,t2 _ _ h⟩
      generalize upd H4 e0 (.lst [])=H5 at hLv5 SD5 sm5 hfs5 ⊢
      obtain⟨vs2,v,rfl⟩:=snoc_of (l:=vs) (List.length_pos_iff.mpr hne)
      obtain⟨fs2,e,rfl,hfs2,a,rfl,ha⟩:=l2r_unsnoc hfs5
      obtain⟨vae,nre⟩:=hfr e (List.mem_append_right _ (List.mem_singleton.mpr rfl))
      rw[List.length_append,List.length_singleton] at hm ⊢
      refine⟨_,rfl,.inl ⟨rfl,_,SqL.of hLv5⟩,L,_,.ref a,rfl,rfl,hLv5,by simp,?_⟩
      dsimp only
      rw[List.dropLast_concat]
      have TL:SameT H5 (upd H5 L (.lst vs2)):=sameT_lst hLv5
      have sm6:Same H1 (upd H5 L (.lst vs2)):=same_upd hL4 sm5
      have hL6:=upd_same (H:=H5) (a:=L) (o:=.lst vs2)
      have SD6:DH (tupH P w) (upd H5 L (.lst vs2)) sd zs:=by
        refine SD5.to (fun b ys' h=>TL _ _ h) ?_
        obtain⟨⟨o5,ho5,_⟩,_⟩:=id SD5
        rw[upd_ne (fun z=>by rw[z,hLv5] at ho5;cases ho5)]
      have hfs6:L2R (IsP (upd H5 L (.lst vs2))) fs2 vs2:=hfs2.imp fun _ _ ⟨a,e,h⟩=>⟨a,e,TL _ _ h⟩
      have ha6:=TL _ _ ha
      generalize upd H5 L (.lst vs2)=H6 at TL sm6 hL6 SD6 hfs6 ha6 ⊢
      have hk:(tupH P w).key H6 (kk e) a:=ha6
      have hfr2:∀ e ∈ fs2,va e/\Nr H xs p e:=fun e he=>hfr e (List.mem_append_left _ he)
      refine⟨_,rfl,_,rfl,sd,a,zs,kk e,rfl,rfl,SD6,hk,_,rfl,?_⟩
      cases hin:(valH zs (kk e)).isSome with
      | true=>
        refine iteF ?_
        exact⟨201 * (xs.length - zs.length)+vs2.length,by omega,L,vs2,fs2,zs,_,rfl,by omega,rfl,sm6,hL4,hL6,hfs6,hfr2,SD6,hzs⟩
      | false=>
        refine iteT ?_
        have lz:zs.length < xs.length:=by
          have hn:kk e ∉ zs.map (·.1):=fun z=>by rw[(valH_isSome zs (kk e)).mpr z] at hin;cases hin
          have:=nd_sub (l:=kk e::zs.map (·.1)) (m:=xs.map (·.1)) (List.nodup_cons.mpr ⟨hn,SD6.nodup⟩) fun k hk=>by
            rcases List.mem_cons.mp hk with rfl | hk
            · exact allk e vae
            · obtain⟨z,hz,rfl⟩:=List.mem_map.mp hk
              obtain⟨r,e1,vr,_⟩:=hzs z hz
              rw[e1]
              exact allk r vr
          rw[List.length_cons,List.length_map,List.length_map] at this
          omega
        refine⟨_,rfl,_,rfl,sd,a,zs,kk e,rfl,rfl,SD6,hk,Nat.lt_of_le_of_lt (show zs.length <= 1000 by omega) (by decide),fun o' ob'=>?_⟩
        have SD7:=SD6.put hk ob'
        obtain⟨⟨o6,ho6,_⟩,_⟩:=id SD6
        have kt:∀ b u,(∀ o,u ≠ pinO sd o)->H6 b=some u->upd H6 sd (pinO sd o') b=some u:=fun b u hu h=>by
          rw[upd_ne (fun z=>by rw[z,ho6] at h;exact hu o6 (Option.some.inj h).symm)]
          exact h
        have sm7:Same H1 (upd H6 sd (pinO sd o')):=same_upd hsd1 sm6
        have hL7:=kt L (.lst vs2) (fun o z=>nomatch z) hL6
        have T7:SameT H6 (upd H6 sd (pinO sd o')):=fun b ys' h=>kt b _ (fun o z=>nomatch z) h
        have hfs7:L2R (IsP (upd H6 sd (pinO sd o'))) fs2 vs2:=hfs6.imp fun _ _ ⟨a,e,h⟩=>⟨a,e,T7 _ _ h⟩
        have hk7:(tupH P w).key (upd H6 sd (pinO sd o')) (kk e) a:=T7 _ _ ha6
        generalize upd H6 sd (pinO sd o')=H7 at SD7 sm7 hL7 hfs7 hk7 ⊢
        obtain⟨v2,hv2⟩:=Option.isSome_iff_exists.mp ((valH_isSome xs (kk e)).mpr (allk e vae))
        obtain⟨l2,us2,es2,rfl,hl2,hes2,hva2,_,hb2,_⟩:=gg.get hv2
        have smH:=sm.trans sm7
        refine⟨_,rfl,_,rfl,_,rfl,d,a,xs,_,_,rfl,rfl,DD.same smH,hk7,hv2,?_⟩
        refine⟨L,l2,vs2,us2,rfl,rfl,hL7,smH _ _ hl2,fits2 (by omega),fun L2 hL2=>?_⟩
        have t3:=same_new hL2 (.lst (vs2++us2))
        have lpu:=putH_len zs (kk e) a (.bl true)
        have lzp:(putH zs (kk e) a (.bl true)).length=zs.length+1:=by
          have:=putH_keys zs (kk e) a (.bl true)
          rw[if_neg (fun z=>by rw[(valH_isSome zs (kk e)).mpr z] at hin;cases hin)] at this
          have:=congrArg List.length this
          simpa using this
        have lap:(vs2++us2).length=vs2.length+us2.length:=List.length_append
        refine⟨201 * (xs.length - (putH zs (kk e) a (.bl true)).length)+(vs2++us2).length,by omega,L2,vs2++us2,fs2++es2,putH zs (kk e) a (.bl true),_,rfl,by omega,rfl,sm7.trans t3,sm7.free hL2,upd_same,?_,fun r hr=>?_,SD7.same t3,fun z hz=>?_⟩
        · exact (hfs7.imp fun _ _ ⟨a,e,h⟩=>⟨a,e,t3 _ _ h⟩).app (hes2.imp fun _ _ ⟨a,e,h⟩=>⟨a,e,(smH.trans t3) _ _ h⟩)
        · rcases List.mem_append.mp hr with h | h
          · exact hfr2 r h
          · exact⟨hva2 r h,edge e es2 l2 us2 hv2 hl2 hes2 nre r h⟩
        · have:z.1 ∈ (putH zs (kk e) a (.bl true)).map (·.1):=List.mem_map.mpr ⟨z,hz,rfl⟩
          rw[putH_keys,if_neg (fun z=>by rw[(valH_isSome zs (kk e)).mpr z] at hin;cases hin)] at this
          rcases List.mem_append.mp this with h | h
          · obtain⟨z',hz',e'⟩:=List.mem_map.mp h
            obtain⟨r,e1,h2⟩:=hzs z' hz'
            exact⟨r,by rw[<- e'];exact e1,h2⟩
          · exact⟨e,List.mem_singleton.mp h,vae,nre⟩
    · have sm5:=sm4.trans t2
      have SD5:=SD.same t2
      have FF5:=FF.same sm5
      generalize upd H4 e0 (.lst [])=H5 at sm5 SD5 FF5 ⊢
      have hkx5:(tupH P w).key H5 (kk p) x.2.1:=by rw[<- h1];exact (tupH P w).same (fun b ys e=>(sm.trans sm5) _ _ e) (kxs x hxm)
      have ly:ys.length=i:=by
        have:=congrArg List.length ky
        rw[List.length_map,List.length_map,List.length_take] at this
        have:=lt_of_some ex
        omega
      have il:=lt_of_some ex
      refine⟨_,rfl,_,rfl,_,rfl,f,x.2.1,ys,kk p,rfl,rfl,FF5,hkx5,Nat.lt_of_le_of_lt (show ys.length <= 1000 by omega) (by decide),fun o' ob'=>?_⟩
      obtain⟨⟨o6,ho6,_⟩,_⟩:=id FF5
      have hnot:kk p ∉ ys.map (·.1):=fun z=>by
        rw[ky] at z
        have nd:=DD.nodup
        rw[<- List.take_append_drop i xs,List.map_append] at nd
        have hd:kk p ∈ (xs.drop i).map (·.1):=List.mem_map.mpr ⟨x,List.mem_of_getElem? (i:=0) (by rw[List.getElem?_drop];exact ex),h1⟩
        exact (List.nodup_append.mp nd).2.2 _ z _ hd rfl
      have smZ:Same H (upd H5 f (pinO f o')):=same_upd hf (sm.trans sm5)
      have nds:sd ≠ f:=fun z=>by
        rw[z] at hsd
        obtain⟨⟨o7,ho7,_⟩,_⟩:=FF
        rw[hsd] at ho7
        cases ho7
      have kt:∀ b u,b ≠ f->H5 b=some u->upd H5 f (pinO f o') b=some u:=fun b u hb h=>by rw[upd_ne hb];exact h
      have T7:SameT H5 (upd H5 f (pinO f o')):=fun b ys' h=>kt b _ (fun z=>by rw[z,ho6] at h;cases h) h
      refine⟨_,_,_,_,_,rfl,smZ,smZ _ _ (by obtain⟨⟨od',h',_⟩,_⟩:=DD;rw[h'];rw[s0 _ _ h'] at hod;exact hod),FF5.put hkx5 ob',?_,fun y hy=>?_⟩
      · rw[putH_keys,if_neg hnot,ky,take_snocA ex,List.map_append,<- h1]
        rfl
      · have mv:∀ {y:List Key × Addr × V},SeO P w H xs H5 y->y.2.2 ≠ .ref f->SeO P w H xs (upd H5 f (pinO f o')) y:=fun {y} h hne=>by
          obtain⟨p',sd',zs',g1,g2,g3,g4⟩:=h
          refine⟨p',sd',zs',g1,g2,g3.to (fun b ys' h=>T7 _ _ h) ?_,g4⟩
          rw[upd_ne (fun z=>hne (by rw[g2,z]))]
        unfold putH at hy
        rw[if_neg (fun z=>hnot ((valH_isSome ys (kk p)).mp z))] at hy
        rcases List.mem_append.mp hy with h | h
        · exact⟨mv ((sy y h).1.same sm5) (sy y h).2,(sy y h).2⟩
        · rw[List.mem_singleton.mp h]
          exact⟨mv ⟨p,sd,zs,rfl,rfl,SD5,fun z hz=>by obtain⟨r,a1,_,a2⟩:=hzs z hz;exact⟨r,a1,a2⟩⟩ (fun z=>nds (V.ref.inj z)),fun z=>nds (V.ref.inj z)⟩
  · rintro σ H1 ⟨ys,x2,x3,x4,x5,rfl,sm,hod1,FF,ky,sy⟩
    rw[List.length_map,List.take_length] at ky
    exact⟨_,rfl,q f ys H1 sm hf FF ky fun y hy=>(sy y hy).1⟩
end
end K35
namespace K35
open PySem L2 TR SP
open TM
def spRing (P:Program) (w:World):Sp:=fun vs H Q _=>∃ (f:Addr) (ys xs:List (List Key × Addr × V)) (H0:Hp),vs=[.ref f]/\DH (tupH P w) H f ys/\(∀ y ∈ ys,SeO P w H0 xs H y)/\Q (.bl false) H/\((∃ p,kk p ∈ ys.map (·.1)/\Nr H0 xs p p)->Q (.bl true) H)
section
variable {P:Program} {w:World} {K:PySem.W.Frag} {mg:Str->Option Value} {base:Heap} {T:Adr}
theorem ok_ring (X:Tx K mg T):FnOk P w K mg base CX0 1 T.qhasring T.d_qhasring ["_law_hang_here"] (spRing P w):=by
  refine X.F_qhasring.okQ sc_qhasring (fun vs H Q E h=>?_) (fun cdv A outer s H vs Q E hr h=>?_)
  · obtain⟨_,_,_,_,rfl,_⟩:=h
    rfl
  obtain⟨f,ys,xs,H0,rfl,FF,sy,q0,q1⟩:=h
  refine⟨_,(qss_cons (qs_for PassesOwn.never rfl (qi_keysH (κ:=tupH _ _) (qv 0)) (qg_name (i:=1) sc_qhasring.nd rfl (Or.inl rfl)) (qss_one (qs_if (qt_cmpR (op_inH (κ:=tupH _ _) hr.un80) (qv 1) (qe_dgetH (κ:=tupH _ _) hr.un80 (qv 0) (qv 1)) rfl) (qss_one (qs_ret qe_bl)) qss_nil))) (qss_one (qs_ret qe_bl))),?_⟩
  dsimp only[cxOf]
  refine⟨_,rfl,f,ys,rfl,FF,fun o ho=>?_⟩
  refine for_keys (d:=f) (o:=o) (ks:=ys.map (·.2.1)) (fun i σ H'=>H'=H/\∃ x1,σ=[some (.ref f),x1]) ⟨rfl,none,rfl⟩ (fun i σ H' _ ⟨e,_⟩=>by rw[e];exact ho) ?_ ?_
  · rintro i a σ H' ha ⟨rfl,x1,rfl⟩
    rw[List.getElem?_map] at ha
    cases ex:ys[i]? with
    | none=>rw[ex] at ha;cases ha
    | some y=>
    rw[ex] at ha
    cases ha
    have hym:=List.mem_of_getElem? ex
    obtain⟨p,sd,zs,h1,h2,h3,h4⟩:=sy y hym
    have hky:(tupH P w).key H' (kk p) y.2.1:=by rw[<- h1];exact FF.2 y hym
    have hv:valH ys (kk p)=some (.ref sd):=by rw[<- h1,<- h2];exact valH_mem FF.nodup hym
    refine⟨_,rfl,_,rfl,_,rfl,f,y.2.1,ys,_,_,rfl,rfl,FF,hky,hv,sd,y.2.1,zs,kk p,rfl,rfl,h3,hky,_,rfl,?_⟩
    cases hin:(valH zs (kk p)).isSome with
    | true=>
      refine iteT (q1 ⟨p,List.mem_map.mpr ⟨y,hym,h1⟩,?_⟩)
      obtain⟨z,hz,e⟩:=List.mem_map.mp ((valH_isSome zs (kk p)).mp hin)
      obtain⟨r,e1,n⟩:=h4 z hz
      rw[e] at e1
      rw[kk_inj e1] at n ⊢
      exact n
    | false=>exact iteF ⟨rfl,_,rfl⟩
  · rintro σ H' ⟨rfl,x1,rfl⟩
    exact q0
end
def spReach (P:Program) (w:World):Sp:=fun vs H Q _=>∃ (gp sa f:Addr) (y v:V) (sus:List V) (sg:List Sg) (fm:Fm) (ys xs:List (List Key × Addr × V)) (H0:Hp),vs=[.ref gp,v,.ref f]/\H gp=some (.tup [.ref sa,y])/\H sa=some (.tup sus)/\L2R (SgIs H) sg sus/\FmIs H fm v/\sg.length <= 6/\(∀ s ∈ sg,SgG s)/\(∃ s ∈ sg,s.nm=fm.hd) /\
  DH (tupH P w) H f ys/\(∀ y ∈ ys,SeO P w H0 xs H y)/\(∀ p,Va sg fm p->kk p ∈ ys.map (·.1)) /\
  ∀ (v:V) (rc:List (Str × Str)) (H':Hp),Same H H'->RcIs H' rc v->rc.length <= 4->(∀ q ∈ rc,∃ s ∈ sg,s.nm=fm.hd/\(∃ a ∈ s.dn,q.1=a.1)/\∃ b ∈ s.up,q.2=b.1)->Q v H'
section
variable {P:Program} {w:World} {K:PySem.W.Frag} {mg:Str->Option Value} {base:Heap} {T:Adr}
theorem ok_reach (X:Tx K mg T):FnOk P w K mg base CX0 1 T.qreach T.d_qreach ["_law_grammar", "_law_form_here", "_law_hang_here"] (spReach P w):=by
  refine X.F_qreach.okQ sc_qreach (fun vs H Q E h=>?_) (fun cdv A outer s H vs Q E hr h=>?_)
  · obtain⟨_,_,_,_,_,_,_,_,_,_,_,rfl,_⟩:=h
    rfl
  obtain⟨gp,sa,f,y,v,sus,sg,fm,ys,xs,H0,rfl,hgp,hsa,hsg,hfm,l6,gsg,⟨s1,hs1,es1⟩,FF,sy,allk,q⟩:=h
  refine⟨_,(qss_cons (qs_set (i:=3) sc_qreach.nd rfl (Or.inl rfl) (qe_ix ix_list (qe_comp (ys:=["_law_form_here"]) (js:=[1]) rfl rfl (qi_tup (qe_ix ix_tup (qv 0) qe_int (fun _ _=>rfl))) (fun _ _ _ _ _=>qif_one (qt_cmpR op_eq (qe_ix (ix_tupC (K:=K) rfl) (qv 0) qe_int (fun _ _=>rfl)) (qe_ix (ix_tupC (K:=K) rfl) (qv 1) qe_int (fun _ _=>rfl)) (nomark _))) (fun _ _ _ _ _=>(qv 0))) qe_int (fun _ _=>rfl))) (qss_cons (qs_set (i:=4) sc_qreach.nd rfl (Or.inl rfl) (qe_lst qa_nil)) (qss_cons (qs_for PassesOwn.never rfl (qi_tup (qe_ix ix_tup (qv 3) qe_int (fun _ _=>rfl))) (qg_tup rfl (qgs_cons (qg_name (i:=5) sc_qreach.nd rfl (Or.inl rfl)) (qgs_cons (qg_name (i:=6) sc_qreach.nd rfl (Or.inl rfl)) qgs_nil))) (qss_one (qs_for PassesOwn.never rfl (qi_tup (qe_ix ix_tup (qv 3) qe_int (fun _ _=>rfl))) (qg_tup rfl (qgs_cons (qg_name (i:=7) sc_qreach.nd rfl (Or.inl rfl)) (qgs_cons (qg_name (i:=8) sc_qreach.nd rfl (Or.inl rfl)) qgs_nil))) (qss_one (qs_if (qt_cmpR (op_inH (κ:=tupH _ _) hr.un80) (qe_tup (qaC qe_int (qaN (qv 5) qa_nil))) (qe_dgetH (κ:=tupH _ _) hr.un80 (qv 2) (qe_tup (qaC qe_int (qaN (qv 7) qa_nil)))) rfl) (qss_one (qs_expr (qe_bm PySem.F.plainAttrs_list PySem.F.slot_list_append PySem.F.type_list_append mt_append (qv 4) (qaT (qe_tup (qaN (qv 5) (qaN (qv 7) qa_nil))) qa_nil)))) qss_nil))))) (qss_one (qs_ret (qe_callTy call_tuple_of rfl X.z_tuple PyProof.Rows.boot_tuple (qaN (qv 4) qa_nil))))))),?_⟩
  dsimp only[cxOf]
  obtain⟨fp,fb,fr,fus,rfl,hfp,hfb,hfr,hru⟩:=id hfm
  have lsg:=hsg.len
  refine⟨_,rfl,gp,_,0,.ref sa,rfl,rfl,SqT.of hgp,rfl,sa,rfl,⟨_,SqT.of hsa⟩,fun D hD=>?_⟩
  refine comp_gF (K:=K) (B:=SgIs) (a:=sa) (us:=sus) (G:=sg) (R:=SgIs) (fun _ _ _ _ e h=>SgIs.same e h) (fun _ _ _ _ e h=>SgIs.same e h) (fun s=>decide (s.nm=fm.hd)) (fitsL (by omega)) hsa hsg hD (fun s' v' H2 hm' hs' s2 Q' k=>?_) (fun s' v' H2 hm' hs' s2 Q' k=>⟨_,rfl,k _ _ (Same.refl _) hs'⟩) (fun os H2 s2 hD2 hos=>?_)
  · obtain⟨p,_,_,_,_,rfl,hp,_⟩:=hs'
    have e:decide (V.str s'.nm=V.str fm.hd)=decide (s'.nm=fm.hd):=by simp
    refine⟨_,rfl,p,_,0,.str s'.nm,rfl,rfl,SqT.of hp,rfl,_,rfl,fp,_,1,.str fm.hd,rfl,rfl,SqT.of (s2 _ _ hfp),rfl,rfl,_,rfl,?_⟩
    rw[e]
    exact k H2 (Same.refl _)
  obtain⟨s0,sr,e0⟩ : ∃ s0 sr,sg.filter (fun s=>decide (s.nm=fm.hd))=s0::sr:=by
    cases h:sg.filter (fun s=>decide (s.nm=fm.hd)) with
    | nil=>exact absurd (List.mem_filter.mpr ⟨hs1,decide_eq_true es1⟩) (by rw[h];exact fun z=>nomatch z)
    | cons a b=>exact⟨a,b,rfl⟩
  have hs0:s0 ∈ sg.filter (fun s=>decide (s.nm=fm.hd)):=by rw[e0];exact List.mem_cons_self
  obtain⟨m0,n0⟩:=List.mem_filter.mp hs0
  have n0:s0.nm=fm.hd:=of_decide_eq_true n0
  have gs:=gsg s0 m0
  rw[e0] at hos
  obtain⟨v0,vr,rfl,hv0,_⟩:=hos.inv_cons
  obtain⟨p,da,ua,dus,uus,rfl,hp,hda,hdn,hua,hup⟩:=hv0
  refine⟨D,_,0,.ref p,rfl,rfl,SqL.of hD2,atI_head _ _,?_⟩
  refine⟨(by show 0 <= sizeLine;decide),fun r hr'=>?_⟩
  have s3:=same_new hr' (.lst [])
  have r0:H r=none:=s2.free hr'
  have hr3:=upd_same (H:=H2) (a:=r) (o:=.lst [])
  have sA:=s2.trans s3
  have hp3:=s3 _ _ hp
  have hda3:=s3 _ _ hda
  have hua3:=s3 _ _ hua
  have hdn3:L2R (PrIs (upd H2 r (.lst []))) s0.dn dus:=hdn.imp fun _ _ h=>PrIs.same (sameT s3) h
  have hup3:L2R (PrIs (upd H2 r (.lst []))) s0.up uus:=hup.imp fun _ _ h=>PrIs.same (sameT s3) h
  generalize upd H2 r (.lst [])=H3 at hr3 sA hp3 hda3 hua3 hdn3 hup3 ⊢
  have ldn:=hdn3.len
  have lup:=hup3.len
  have g1:=gs.ld
  have g2:=gs.lu
  refine⟨_,rfl,p,_,1,.ref da,rfl,rfl,SqT.of hp3,rfl,da,rfl,⟨_,SqT.of hda3⟩,?_⟩
  refine for_tup (K:=K) (a:=da) (xs:=dus) (fun i σ H4=>∃ (rc:List (Str × Str)) (rus:List V) (x5 x6 x7 x8:Option V),σ=[some (.ref gp),some (.ref fp),some (.ref f),some (.ref p),some (.ref r),x5,x6,x7,x8]/\Same H H4/\Kp [r] H3 H4/\H4 r=some (.lst rus)/\L2R (PrIs H4) rc rus/\rc.length <= 2 * i/\∀ q ∈ rc,(∃ a ∈ s0.dn,q.1=a.1)/\∃ b ∈ s0.up,q.2=b.1)
    ⟨[],[],none,none,none,none,rfl,sA,Kp.refl _ _,hr3,.nil,Nat.le_refl _,fun q hq=>nomatch hq⟩ (fun i σ H4 _ ⟨_,_,_,_,_,_,_,_,kp,_⟩=>SqT.of (kp.T (fun b hb=>by rw[List.mem_singleton.mp hb];exact⟨_,hr3⟩) _ _ hda3)) ?_ ?_
  · rintro i v4 σ H4 hv4 ⟨rc,rus,x5,x6,x7,x8,rfl,sm4,kp4,hr4,hrc4,lrc,grc⟩
    have T4:SameT H3 H4:=kp4.T fun b hb=>by rw[List.mem_singleton.mp hb];exact⟨_,hr3⟩
    obtain⟨a,ha,pa,rfl,hpa⟩:=hdn3.get hv4
    have hi:=lt_of_some ha
    refine⟨pa,_,rfl,SqT.of (T4 _ _ hpa),rfl,_,_,rfl,_,_,rfl,rfl,?_⟩
    refine⟨_,rfl,p,_,2,.ref ua,rfl,rfl,SqT.of (T4 _ _ hp3),rfl,ua,rfl,⟨_,SqT.of (T4 _ _ hua3)⟩,?_⟩
    refine for_tup (K:=K) (a:=ua) (xs:=uus) (fun j σ H5=>∃ (rc:List (Str × Str)) (rus:List V) (x7 x8:Option V),σ=[some (.ref gp),some (.ref fp),some (.ref f),some (.ref p),some (.ref r),some (.str a.1),some (.str a.2),x7,x8]/\Same H H5/\Kp [r] H3 H5/\H5 r=some (.lst rus)/\L2R (PrIs H5) rc rus/\rc.length <= 2 * i+j/\∀ q ∈ rc,(∃ a ∈ s0.dn,q.1=a.1)/\∃ b ∈ s0.up,q.2=b.1)
      ⟨rc,rus,_,_,rfl,sm4,kp4,hr4,hrc4,by omega,grc⟩ (fun j σ H5 _ ⟨_,_,_,_,_,_,kp,_⟩=>SqT.of (kp.T (fun b hb=>by rw[List.mem_singleton.mp hb];exact⟨_,hr3⟩) _ _ hua3)) ?_ ?_
    · rintro j v5 σ H5 hv5 ⟨rc,rus,x7,x8,rfl,sm5,kp5,hr5,hrc5,lrc,grc⟩
      have T5:SameT H3 H5:=kp5.T fun b hb=>by rw[List.mem_singleton.mp hb];exact⟨_,hr3⟩
      obtain⟨b,hb,pb,rfl,hpb⟩:=hup3.get hv5
      have hj:=lt_of_some hb
      have lrus:=hrc5.len
      refine⟨pb,_,rfl,SqT.of (T5 _ _ hpb),rfl,_,_,rfl,_,_,rfl,rfl,?_⟩
      refine⟨_,rfl,(by show 2 <= sizeLine;decide),fun w1 hw1=>?_⟩
      have t1:=same_new hw1 (.tup [.int 0,.str a.1])
      refine⟨_,rfl,_,rfl,(by show 2 <= sizeLine;decide),fun w2 hw2=>?_⟩
      have t2:=same_new hw2 (.tup [.int 0,.str b.1])
      have k1:(tupH P w).key (upd (upd H5 w1 (.tup [.int 0,.str a.1])) w2 (.tup [.int 0,.str b.1])) (kk (0,a.1)) w1:=t2 _ _ upd_same
      have k2:(tupH P w).key (upd (upd H5 w1 (.tup [.int 0,.str a.1])) w2 (.tup [.int 0,.str b.1])) (kk (0,b.1)) w2:=upd_same
      have sm6:=sm5.trans (t1.trans t2)
      have kp6:=kp5.same (t1.trans t2)
      have hr6:=(t1.trans t2) _ _ hr5
      have hrc6:L2R (PrIs (upd (upd H5 w1 (.tup [.int 0,.str a.1])) w2 (.tup [.int 0,.str b.1]))) rc rus:=hrc5.imp fun _ _ h=>PrIs.same (sameT (t1.trans t2)) h
      generalize upd (upd H5 w1 (.tup [.int 0,.str a.1])) w2 (.tup [.int 0,.str b.1])=H6 at k1 k2 sm6 kp6 hr6 hrc6 ⊢
      have vb:Va sg fm (0,b.1):=⟨0,fm.hd,s0,b,rfl,m0,n0,rfl,List.mem_append_right _ (List.mem_of_getElem? hb),rfl⟩
      obtain⟨v6,hv6⟩:=Option.isSome_iff_exists.mp ((valH_isSome ys (kk (0,b.1))).mpr (allk _ vb))
      obtain⟨yy,hyy,ey⟩:=List.mem_map.mp (allk _ vb)
      obtain⟨p6,sd,zs,h1,h2,h3,h4⟩:=sy yy hyy
      have hv7:valH ys (kk (0,b.1))=some (.ref sd):=by rw[<- ey,<- h2];exact valH_mem FF.nodup hyy
      refine⟨f,w2,ys,_,_,rfl,rfl,FF.same sm6,k2,hv7,sd,w1,zs,kk (0,a.1),rfl,rfl,h3.same sm6,k1,_,rfl,?_⟩
      cases hin:(valH zs (kk (0,a.1))).isSome with
      | false=>exact iteF ⟨rc,rus,_,_,rfl,sm6,kp6,hr6,hrc6,by omega,grc⟩
      | true=>
        refine iteT ?_
        refine⟨_,rfl,.inl ⟨rfl,_,SqL.of hr6⟩,_,rfl,_,rfl,(by show 2 <= sizeLine;decide),fun w3 hw3=>?_⟩
        have t3:=same_new hw3 (.tup [.str a.1,.str b.1])
        refine⟨r,rus,_,rfl,rfl,t3 _ _ hr6,fitsL (by omega),?_⟩
        have TL:SameT (upd H6 w3 (.tup [.str a.1,.str b.1])) (upd (upd H6 w3 (.tup [.str a.1,.str b.1])) r (.lst (rus++[.ref w3]))):=sameT_lst (t3 _ _ hr6)
        refine⟨rc++[(a.1,b.1)],rus++[.ref w3],_,_,rfl,same_upd r0 (sm6.trans t3),(kp6.same t3).upd (by simp),upd_same,((hrc6.imp fun _ _ h=>PrIs.same (sameT t3) h).imp fun _ _ h=>PrIs.same TL h).snoc ⟨w3,rfl,TL _ _ upd_same⟩,by rw[List.length_append,List.length_singleton];omega,fun q hq=>?_⟩
        rcases List.mem_append.mp hq with h | h
        · exact grc q h
        · rw[List.mem_singleton.mp h]
          exact⟨⟨a,List.mem_of_getElem? ha,rfl⟩,b,List.mem_of_getElem? hb,rfl⟩
    · rintro σ H5 ⟨rc,rus,x7,x8,rfl,sm5,kp5,hr5,hrc5,lrc,grc⟩
      exact⟨rc,rus,_,_,_,_,rfl,sm5,kp5,hr5,hrc5,by omega,grc⟩
  · rintro σ H4 ⟨rc,rus,x5,x6,x7,x8,rfl,sm4,kp4,hr4,hrc4,lrc,grc⟩
    refine⟨_,rfl,r,_,rfl,.inl ⟨SqL.of hr4,fun t ht=>?_⟩⟩
    have s5:=same_new ht (.tup rus)
    exact q _ rc _ (sm4.trans s5) ⟨t,rus,rfl,upd_same,hrc4.imp fun _ _ h=>PrIs.same (sameT s5) h⟩ (by omega) fun q hq=>⟨s0,m0,n0,grc q hq⟩
end
end K35
namespace K35
open PySem L2 TR SP
open TM
theorem op_eqDC {X:Cx} {K:PySem.W.Frag} (h:X.K=K) (hu:X.A.units+64 < cLine):OpR X (compareOp .Eq) (rCmpD K id):=h ▸ op_eqD hu
theorem RwIs.sameT {H H':Hp} (s:SameT H H') {r:Rw} {v:V} (h:RwIs H r v):RwIs H' r v:=by
  obtain⟨p,rp,rus,t,e,h1,h2,h3,h4⟩:=h
  exact⟨p,rp,rus,t,e,s _ _ h1,s _ _ h2,h3.imp fun _ _ h=>PrIs.same s h,s _ _ h4⟩
noncomputable def dpr (q:Str × Str):Da:=.tup [.fl (.str q.1),.fl (.str q.2)]
theorem dpr_isds {K:PySem.W.Frag} {H:Hp}:∀ {rc:List (Str × Str)} {us:List V},L2R (PrIs H) rc us->Isds K H (rc.map dpr) us/\depDs (rc.map dpr) <= 1
  | [],us,h=>by
    cases h
    exact⟨by unfold Isds;rfl,by show depDs [] <= 1;unfold depDs;decide⟩
  | q::rc,us,h=>by
    cases h with
    | cons h1 h2=>
      obtain⟨i1,i2⟩:=dpr_isds (K:=K) h2
      obtain⟨a,rfl,ha⟩:=h1
      refine⟨?_,?_⟩
      · show Isds K H (dpr q::rc.map dpr) _
        unfold Isds
        refine⟨_,_,rfl,?_,i1⟩
        unfold dpr Isd
        refine⟨a,_,rfl,SqT.of ha,?_⟩
        unfold Isds
        refine⟨_,_,rfl,by unfold Isd;exact⟨rfl,rfl⟩,?_⟩
        unfold Isds
        refine⟨_,_,rfl,by unfold Isd;exact⟨rfl,rfl⟩,?_⟩
        unfold Isds
        rfl
      · show depDs (dpr q::rc.map dpr) <= 1
        unfold depDs
        have:depD (dpr q)=1:=by
          unfold dpr depD depDs depDs depDs depD
          rfl
        omega
noncomputable def rcAt (rs:List Rw) (n:Nat):List (Str × Str):=((rs[n]?).map Rw.rc).getD []
structure FmP (sg:List Sg) (f:Fm):Prop where
  g:∀ s ∈ sg,SgG s
  l3:sg.length <= 6
  b3:f.br.length <= 3
  ru:∀ r ∈ f.ru,Va sg f (r.k,r.nm)/\(∀ p ∈ named r.tm,Va sg f p)/\depth r.tm <= 12/\parts r.tm <= 100
  r8:f.ru.length <= 8
  hd:∃ s ∈ sg,s.nm=f.hd
def RcG (sg:List Sg) (nm:Str) (rc:List (Str × Str)):Prop:=rc.length <= 4/\∀ q ∈ rc,∃ s ∈ sg,s.nm=nm/\(∃ a ∈ s.dn,q.1=a.1)/\∃ b ∈ s.up,q.2=b.1
def Leaf (f:Fm):Prop:=∀ r ∈ f.ru,∀ p ∈ named r.tm,∀ r' ∈ f.ru,p ≠ (r'.k,r'.nm)
theorem no_ring {B H:Hp} {f:Fm} {va:Pr->Prop} {xs:List (List Key × Addr × V)} (lf:Leaf f) (gg:GO B va (EdO f []) 200 H xs) (p:Pr):¬ Nr H xs p p:=fun h=>by
  have ed:∀ q es,EdR H xs q es->es=[]\/∃ r ∈ f.ru,q=(r.k,r.nm)/\es=named r.tm:=fun q es ⟨l,us,h1,h2,h3⟩=>by
    obtain⟨l',us',es',e1,e2,e3,_,e4,_⟩:=gg.get h1
    cases e1
    rw[h2] at e2
    cases e2
    rw[ips_fun h3 e3]
    exact e4 rfl
  have h1:∀ r ∈ f.ru,p ≠ (r.k,r.nm):=h (fun q=>∀ r ∈ f.ru,q ≠ (r.k,r.nm)) (fun q es hq he e hm=>by
    rcases ed q es he with rfl | ⟨r,hr,e',_⟩
    · exact nomatch hm
    · exact absurd e' (hq r hr)) (fun es he e hm=>by
    rcases ed p es he with rfl | ⟨r,hr,_,rfl⟩
    · exact nomatch hm
    · exact lf r hr e hm)
  exact h (fun _=>False) (fun _ _ z=>z.elim) fun es he e hm=>by
    rcases ed p es he with rfl | ⟨r,hr,e',_⟩
    · exact nomatch hm
    · exact h1 r hr e'
def spPut:Sp:=fun vs H Q _=>∃ (gp sa L lw:Addr) (y v:V) (sus us:List V) (sg:List Sg) (f:Fm) (rs:List Rw) (low:List Nat),vs=[.ref gp,.ref L,v,.ref lw]/\H gp=some (.tup [.ref sa,y])/\H sa=some (.tup sus)/\L2R (SgIs H) sg sus/\FmIs H f v/\FmP sg f /\
  H L=some (.lst us)/\L2R (RwIs H) rs us/\rs.length <= 90/\H lw=some (.tup (lowV low))/\low.length <= 3 /\
  (∀ (k n:Nat),low[k]?=some n->n < rs.length/\(rcAt rs n).length <= 4/\∀ q ∈ rcAt rs n,Va sg f ((k+1:Nat),q.1)/\Va sg f ((k+1:Nat),q.2)) /\
  ∀ (rs':List Rw) (us':List V) (H':Hp),Kp [L] H H'->H' L=some (.lst us')->L2R (RwIs H') rs' us'->(rs'=rs\/∃ rc,rs'=rs++[⟨f.hd,rc,f.nm,low⟩]/\RcG sg f.hd rc)->(rs=[]->low=[]->Leaf f->rs' ≠ [])->Q .non H'
section
variable {P:Program} {w:World} {K:PySem.W.Frag} {mg:Str->Option Value} {base:Heap} {T:Adr}
theorem ok_put (X:Tx K mg T):FnOk P w K mg base CX0 15 T.qput T.d_qput ["_law_grammar", "_law_rows", "_law_form_here", "_law_lower"] spPut:=by
  have G_qgraph:=ok_graph (P:=P) (w:=w) (base:=base) X
  have G_qhang:=(ok_hang (P:=P) (w:=w) (base:=base) X).mono (show 1 <= 14 by decide)
  have G_qhasring:=(ok_ring (P:=P) (w:=w) (base:=base) X).mono (show 1 <= 14 by decide)
  have G_qreach:=(ok_reach (P:=P) (w:=w) (base:=base) X).mono (show 1 <= 14 by decide)
  refine X.F_qput.okQ sc_qput (fun vs H Q E h=>?_) (fun cdv A outer s H vs Q E hr h=>?_)
  · obtain⟨_,_,_,_,_,_,_,_,_,_,_,_,rfl,_⟩:=h
    rfl
  obtain⟨gp,sa,L,lw,y,v,sus,us,sg,f,rs,low,rfl,hgp,hsa,hsg,hf,fp,hL,hrs,l90,hlw,l3,fit,q⟩:=h
  refine⟨_,(qss_cons (qs_set (i:=4) sc_qput.nd rfl (Or.inl rfl) (qe_call G_qhang hr rfl X.m_qhang X.F_qhang.kp X.b_qhang .nil pass0 (qaK (qe_call G_qgraph hr rfl X.m_qgraph X.F_qgraph.kp X.b_qgraph .nil pass0 (qaN (qv 0) (qaN (qv 2) (qaE (qe_comp (ys:=["_law_rows"]) (js:=[1]) rfl rfl (qi_tup (qv 3)) (fun _ _ _ _ _=>qif_nil) (fun _ _ _ _ _=>(qe_ix (ix_tupC (K:=K) rfl) (qe_ix (ix_listC (K:=K) rfl) (qv 1) (qv 0) (fun _ _=>rfl)) qe_int (fun _ _=>rfl)))) qa_nil)))) qa_nil))) (qss_one (qs_if (qt_not (qt_val (qe_call G_qhasring hr rfl X.m_qhasring X.F_qhasring.kp X.b_qhasring .nil pass0 (qaN (qv 4) qa_nil)))) (qss_cons (qs_set (i:=5) sc_qput.nd rfl (Or.inr rfl) (qe_call G_qreach hr rfl X.m_qreach X.F_qreach.kp X.b_qreach .nil pass0 (qaN (qv 0) (qaN (qv 2) (qaN (qv 4) qa_nil))))) (qss_one (qs_if (qt_cmpR (op_eqNil hr.units) (qe_comp (ys:=["_law_form_here", "_law_reach_here"]) (js:=[2,5]) rfl rfl (qi_list (qv 1)) (fun _ _ _ _ _=>qif_one (qw_pt (qw_and (qt_cmpR op_eq (qe_ix (ix_tupC (K:=K) rfl) (qv 0) qe_int (fun _ _=>rfl)) (qe_ix (ix_tupC (K:=K) rfl) (qv 1) qe_int (fun _ _=>rfl)) (nomark _)) (qw_and1 (qt_cmpR (op_eqDC (K:=K) rfl hr.units) (qe_ix (ix_tupC (K:=K) rfl) (qv 0) qe_int (fun _ _=>rfl)) (qv 2) (nomark _)))))) (fun _ _ _ _ _=>(qv 0))) (qe_lst qa_nil) (nomark _)) (qss_one (qs_expr (qe_bm PySem.F.plainAttrs_list PySem.F.slot_list_append PySem.F.type_list_append mt_append (qv 1) (qaT (qe_tup (qaS (qe_ix ix_tup (qv 2) qe_int (fun _ _=>rfl)) (qaN (qv 5) (qaS (qe_ix ix_tup (qv 2) qe_int (fun _ _=>rfl)) (qaN (qv 3) qa_nil))))) qa_nil)))) qss_nil))) qss_nil))),?_⟩
  dsimp only[cxOf]
  have lrs:=hrs.len
  have llw:(lowV low).length=low.length:=by unfold lowV;rw[List.length_map]
  refine⟨_,rfl,_,rfl,_,rfl,lw,rfl,⟨_,SqT.of hlw⟩,fun D hD=>?_⟩
  refine comp_tupR (K:=K) (xs:=lowV low) (as:=low.map (rcAt rs)) (R:=RcIs) (OffD.ofT fun _ _ _ _ e h=>RcIs.same e h) (fitsL (by omega)) (by rw[List.length_map,llw]) (SqT.of hlw) hD (fun i x b H2 hx hb s2 _ Q' k=>?_) (fun rvs H2 s2 hD2 hrv=>?_)
  · unfold lowV at hx
    rw[List.getElem?_map] at hx hb
    cases e:low[i]? with
    | none=>rw[e] at hx;cases hx
    | some n=>
      rw[e] at hx hb
      cases hx
      cases hb
      obtain⟨hn,_⟩:=fit i n e
      obtain⟨u,hu⟩:=some_of_lt (xs:=us) (i:=n) (by omega)
      obtain⟨r,hr',p,rp,rus,t,rfl,hp,hrp,hrr,_⟩:=hrs.get hu
      refine⟨_,rfl,_,rfl,L,_,_,.ref p,rfl,rfl,SqL.of (s2 _ _ hL),atI_nat hu,p,_,1,.ref rp,rfl,rfl,SqT.of (s2 _ _ hp),rfl,k _ _ (Same.refl _) ?_⟩
      unfold rcAt
      rw[hr']
      exact⟨rp,rus,rfl,s2 _ _ hrp,hrr.imp fun _ _ h=>PrIs.same (sameT s2) h⟩
  have pre:GrPre sg f (low.map (rcAt rs)):=⟨fp.g,fp.l3,fp.b3,fp.ru,fp.r8,fun k rc hk=>by
    rw[List.getElem?_map] at hk
    cases e:low[k]? with
    | none=>rw[e] at hk;cases hk
    | some n=>
      rw[e] at hk
      cases hk
      exact (fit k n e).2,by rw[List.length_map];exact l3⟩
  refine⟨gp,sa,D,y,v,sus,rvs,sg,f,low.map (rcAt rs),rfl,s2 _ _ hgp,s2 _ _ hsa,hsg.imp fun _ _ h=>SgIs.same (sameT s2) h,FmIs.same (sameT s2) hf,hD2,hrv,pre,fun d xs H3 s3 hd DD gg allk l200=>?_⟩
  refine⟨d,xs,_,_,_,rfl,DD,gg,allk,l200,fun fd ys H4 s4 hfd FF ky sy=>?_⟩
  have sA:=s2.trans (s3.trans s4)
  have unch:∀ H',Same H H'->(rs=[]->low=[]->Leaf f->False)->Q .non H':=fun H' s' hn=>q rs us H' (Kp.of s') (s' _ _ hL) (hrs.imp fun _ _ h=>RwIs.same s' h) (.inl rfl) fun h1 h2 h3=>(hn h1 h2 h3).elim
  refine⟨_,rfl,fd,ys,xs,H3,rfl,FF,sy,⟨_,rfl,iteT ?_⟩,fun⟨p,_,nr⟩=>⟨_,rfl,iteF (unch H4 sA fun h1 h2 h3=>?_)⟩⟩
  · refine⟨_,rfl,_,rfl,_,rfl,gp,sa,fd,y,v,sus,sg,f,ys,xs,H3,rfl,sA _ _ hgp,sA _ _ hsa,hsg.imp fun _ _ h=>SgIs.same (sameT sA) h,FmIs.same (sameT sA) hf,fp.l3,fp.g,fp.hd,FF,sy,fun p hp=>by rw[ky];exact allk p hp,fun rv rc H5 s5 hrc l4 grc=>?_⟩
    have sB:=sA.trans s5
    obtain⟨fa,fb,fr,fus,rfl,hfa,_⟩:=id hf
    obtain⟨rp,rus,rfl,hrp,hrr⟩:=id hrc
    refine⟨_,rfl,L,rfl,⟨_,SqL.of (sB _ _ hL)⟩,fun C hC=>?_⟩
    refine comp_gL (K:=K) (B:=RwIs) (a:=L) (us:=us) (G:=rs) (R:=RwIs) (fun _ _ _ _ e h=>RwIs.sameT e h) (fun _ _ _ _ e h=>RwIs.sameT e h) (fun r=>decide (V.str r.sg=V.str f.hd) && eqDs (r.rc.map dpr) (rc.map dpr)) (fitsL (by omega)) (sB _ _ hL) (hrs.imp fun _ _ h=>RwIs.same sB h) hC (fun r' v' H6 _ hr' s6 Q' k=>?_) (fun r' v' H6 _ hr' s6 Q' k=>⟨_,rfl,k _ _ (Same.refl _) hr'⟩) (fun os H6 s6 hC6 hos=>?_)
    · obtain⟨p,rp',rus',t,rfl,hp,hrp',hrr',_⟩:=hr'
      obtain⟨i1,i2⟩:=dpr_isds (K:=K) hrr'
      obtain⟨i3,i4⟩:=dpr_isds (K:=K) (hrr.imp fun _ _ h=>PrIs.same (sameT s6) h)
      refine⟨_,rfl,p,_,0,.str r'.sg,rfl,rfl,SqT.of hp,rfl,_,rfl,fa,_,1,.str f.hd,rfl,rfl,SqT.of ((sB.trans s6) _ _ hfa),rfl,rfl,_,rfl,?_⟩
      have kk':=k H6 (Same.refl _)
      cases hc:decide (V.str r'.sg=V.str f.hd) with
      | false=>
        rw[hc] at kk'
        exact iteF kk'
      | true=>
        rw[hc] at kk'
        refine iteT ⟨_,rfl,p,_,1,.ref rp',rfl,rfl,SqT.of hp,rfl,_,rfl,rp',rp,rus',rus,_,_,rfl,rfl,.inl ⟨SqT.of hrp',SqT.of (s6 _ _ hrp)⟩,i1,i3,by omega,_,rfl,?_⟩
        exact kk'
    · refine⟨(by show 0 <= sizeLine;decide),fun e0 he0=>?_⟩
      have t1:=same_new he0 (.lst [])
      have sC:=sB.trans (s6.trans t1)
      refine⟨C,e0,os,rfl,rfl,SqL.of (t1 _ _ hC6),SqL.of upd_same,_,rfl,iteDd (fun hnil=>?_) (fun hne=>unch _ sC fun h1 _ _=>hne ?_)⟩
      · have hfa7:=sC _ _ hfa
        have hL7:=sC _ _ hL
        have hrp7:=(s6.trans t1) _ _ hrp
        have hrr7:L2R (PrIs (upd H6 e0 (.lst []))) rc rus:=hrr.imp fun _ _ h=>PrIs.same (sameT (s6.trans t1)) h
        have hlw7:=sC _ _ hlw
        generalize upd H6 e0 (.lst [])=H7 at sC hfa7 hL7 hrp7 hrr7 hlw7 ⊢
        refine⟨_,rfl,.inl ⟨rfl,_,SqL.of hL7⟩,_,rfl,fa,_,1,.str f.hd,rfl,rfl,SqT.of hfa7,rfl,_,rfl,_,rfl,fa,_,0,.str f.nm,rfl,rfl,SqT.of hfa7,rfl,_,rfl,(by show 4 <= sizeLine;decide),fun w1 hw1=>?_⟩
        have t2:=same_new hw1 (.tup [.str f.hd,.ref rp,.str f.nm,.ref lw])
        refine⟨L,us,_,rfl,rfl,t2 _ _ hL7,fitsL (by omega),?_⟩
        have TL:SameT (upd H7 w1 (.tup [.str f.hd,.ref rp,.str f.nm,.ref lw])) (upd (upd H7 w1 (.tup [.str f.hd,.ref rp,.str f.nm,.ref lw])) L (.lst (us++[.ref w1]))):=sameT_lst (t2 _ _ hL7)
        have TA:=(sameT t2).trans TL
        refine q (rs++[⟨f.hd,rc,f.nm,low⟩]) (us++[.ref w1]) _ (((Kp.of (sC.trans t2))).upd (by simp)) upd_same ((hrs.imp fun _ _ h=>RwIs.sameT ((sameT sC).trans TA) h).snoc ⟨w1,rp,rus,lw,rfl,TL _ _ upd_same,TA _ _ hrp7,hrr7.imp fun _ _ h=>PrIs.same TA h,TA _ _ hlw7⟩) (.inr ⟨rc,rfl,l4,grc⟩) fun _ _ _ z=>by simp at z
      · rw[h1] at hos
        exact hos.nil_of
  · subst h2
    exact no_ring h3 gg p nr
end
end K35
namespace K35
open PySem L2 TR SP
open TM
theorem call_isxC {X:Cx} {K:PySem.W.Frag} (h:X.K=K):CallR X (.builtin "isinstance") (fun xs H Q=>∃ (a C:Addr) (v:V) (b:Bool),xs=[.ref a,v]/\H a=some (excO a C)/\XCls K C /\
    ((∃ D,v=.ref D/\PySem.W.kitOne K (.ref C) (.ref D)=some b)\/(∃ T,v=.ty T/\PySem.W.kitOne K (.ref C) (.type T)=some b)\/(∃ (p:Addr) (ds:List Addr),v=.ref p/\H p=some (.tup (ds.map V.ref))/\PySem.W.kitAny K (.ref C) (ds.map Value.ref)=some b))/\Q (.bl b) H):=h ▸ call_isx
theorem boot_VE:bootBuiltins "ValueError" = some (.type "ValueError"):=by decide +kernel
def spTold:Sp:=fun vs H Q _=>∃ (g:V) (a:Addr) (us:List V) (rs:List Rw) (n:Nat),vs=[g,.ref a,.int n]/\H a=some (.lst us)/\L2R (RwIs H) rs us/\RwOk rs/\n < rs.length /\
  (∀ l v H',Same H H'->¬ Big rs n->GT H' rs n v->H' l=some (.lst [.bl false,v,.bl true])->Q (.ref l) H')/\(∀ l H',Same H H'->Big rs n->H' l=some (.lst [.bl true,.non,.bl true])->Q (.ref l) H')
section
variable {P:Program} {w:World} {K:PySem.W.Frag} {mg:Str->Option Value} {base:Heap} {T:Adr}
theorem ok_told (X:Tx K mg T):FnOk P w K mg base CX0 23 T.qtold T.d_qtold ["_law_grammar", "_law_rows", "_law_number"] spTold:=by
  have G_qgrown:=ok_pgrown (P:=P) (w:=w) (base:=base) X
  refine X.F_qtold.okQ sc_qtold (fun vs H Q E h=>?_) (fun cdv A outer s H vs Q E hr h=>?_)
  · obtain⟨_,_,_,_,_,rfl,_⟩:=h
    rfl
  obtain⟨g,a,us,rs,n,rfl,ha,hrs,ok,hn,q,qe⟩:=h
  refine⟨_,(qss_cons (qs_set (i:=3) sc_qtold.nd rfl (Or.inl rfl) qe_non) (qss_cons (qs_set (i:=4) sc_qtold.nd rfl (Or.inl rfl) qe_bl) (qss_cons (qs_set (i:=5) sc_qtold.nd rfl (Or.inl rfl) qe_bl) (qss_cons (qs_tryA (i:=6) (j:=3) G_qgrown hr rfl X.m_qgrown X.F_qgrown.kp X.b_qgrown (qaN (qv 0) (qaN (qv 1) (qaN (qv 2) qa_nil))) rfl X.m_TooGreat X.e_TooGreat sc_qtold.nd rfl rfl rfl rfl rfl rfl rfl (fun _=>(qss_cons (qs_set (i:=4) sc_qtold.nd rfl (Or.inl rfl) qe_bl) (qss_cons (qs_set (i:=5) sc_qtold.nd rfl (Or.inl rfl) (qe_and (qe_callB (call_isxC (K:=K) rfl) rfl X.z_isinstance PyProof.Rows.boot_isinstance (qaN (qv 6) (qaN (qe_glob rfl X.m_LeafError (v:=V.ref T.k_LeafError) rfl) qa_nil))) (qe_one (qe_callB (call_isxC (K:=K) rfl) rfl X.z_isinstance PyProof.Rows.boot_isinstance (qaN (qv 6) (qaN (qe_bltn rfl X.z_ValueError boot_VE rfl (v:=.ty "ValueError")) qa_nil)))))) (qss_one (qs_if (qt_val (qe_callB (call_isxC (K:=K) rfl) rfl X.z_isinstance PyProof.Rows.boot_isinstance (qaN (qv 6) (qaT (qe_tup (qaN (qe_glob rfl X.m_NoText (v:=V.ref T.k_NoText) rfl) (qaN (qe_glob rfl X.m_NoName (v:=V.ref T.k_NoName) rfl) (qaN (qe_glob rfl X.m_NoRule (v:=V.ref T.k_NoRule) rfl) (qaN (qe_glob rfl X.m_NoKind (v:=V.ref T.k_NoKind) rfl) (qaN (qe_glob rfl X.m_NoTree (v:=V.ref T.k_NoTree) rfl) (qaN (qe_glob rfl X.m_NoPlace (v:=V.ref T.k_NoPlace) rfl) (qaN (qe_glob rfl X.m_NoGiven (v:=V.ref T.k_NoGiven) rfl) (qaN (qe_glob rfl X.m_NoWalk (v:=V.ref T.k_NoWalk) rfl) (qaN (qe_glob rfl X.m_Ring (v:=V.ref T.k_Ring) rfl) qa_nil)))))))))) qa_nil)))) (qss_one (qs_set (i:=5) sc_qtold.nd rfl (Or.inl rfl) qe_bl)) qss_nil)))))) (qss_one (qs_ret (qe_lst (qaN (qv 4) (qaN (qv 3) (qaN (qv 5) qa_nil)))))))))),?_⟩
  dsimp only[cxOf]
  refine⟨_,rfl,_,rfl,_,rfl,g,a,us,rs,n,rfl,ha,hrs,ok,hn,fun v H2 s2 nb gt=>?_,fun H2 s2 b=>?_⟩
  · refine⟨_,rfl,_,rfl,_,rfl,(by show 3 <= sizeLine;decide),fun l hl=>?_⟩
    have s3:=same_new hl (.lst [.bl false,v,.bl true])
    exact q l v _ (s2.trans s3) nb (gt.same (sameT s3)) upd_same
  · refine⟨T.k_TooGreat,rfl,X.e_TooGreat,X.u_TooGreat_TooGreat,fun ex hex=>?_⟩
    have E1:=same_new hex (excO ex T.k_TooGreat)
    have hx:=upd_same (H:=H2) (a:=ex) (o:=excO ex T.k_TooGreat)
    generalize upd H2 ex (excO ex T.k_TooGreat)=H3 at E1 hx ⊢
    refine⟨_,rfl,ex,T.k_TooGreat,_,_,rfl,hx,X.x_TooGreat,.inl ⟨_,rfl,X.i_TooGreat_1⟩,_,rfl,iteT ⟨_,rfl,ex,T.k_TooGreat,_,_,rfl,hx,X.x_TooGreat,.inr (.inl ⟨_,rfl,X.i_TooGreat_2⟩),?_⟩⟩
    refine⟨_,rfl,(by show 9 <= sizeLine;decide),fun tp htp=>?_⟩
    have E3:=same_new htp (.tup ([T.k_NoText,T.k_NoName,T.k_NoRule,T.k_NoKind,T.k_NoTree,T.k_NoPlace,T.k_NoGiven,T.k_NoWalk,T.k_Ring].map V.ref))
    refine⟨ex,T.k_TooGreat,_,_,rfl,E3 _ _ hx,X.x_TooGreat,.inr (.inr ⟨tp,[T.k_NoText,T.k_NoName,T.k_NoRule,T.k_NoKind,T.k_NoTree,T.k_NoPlace,T.k_NoGiven,T.k_NoWalk,T.k_Ring],rfl,upd_same,X.i_TooGreat_0⟩),_,rfl,iteF ?_⟩
    refine⟨_,rfl,_,rfl,_,rfl,(by show 3 <= sizeLine;decide),fun l hl=>?_⟩
    exact qe l _ (s2.trans (E1.trans (E3.trans (same_new hl _)))) b upd_same
end
def spIsT (d:Nat):Sp:=fun vs H Q _=>∃ (v:V) (a:Addr) (us:List V) (rs:List Rw) (n:Nat),vs=[v,.ref a,.int n]/\H a=some (.lst us)/\L2R (RwIs H) rs us/\RwOk rs/\n < rs.length/\(dps rs).getD n 0 <= d/\GT H rs n v /\
  ∀ H',Same H H'->Q (.bl true) H'
section
variable {P:Program} {w:World} {K:PySem.W.Frag} {mg:Str->Option Value} {base:Heap} {T:Adr}
theorem ok_isT (X:Tx K mg T):∀ d:Nat,FnOk P w K mg base CX0 (d+2) T.qistree T.d_qistree ["_law_found", "_law_rows", "_law_number"] (spIsT d)
  | 0=>by
    refine X.F_qistree.okQ sc_qistree (fun vs H Q E h=>?_) (fun cdv A outer s H vs Q E hr h=>?_)
    · obtain⟨_,_,_,_,_,rfl,_⟩:=h
      rfl
    obtain⟨v,a,us,rs,n,rfl,ha,hrs,ok,hn,hd,gt,q⟩:=h
    have:=dps_pos rs ((dps rs).getD n 0) (by rw[List.getD_eq_getElem?_getD,List.getElem?_eq_getElem (by rw[dps_len];exact hn)];exact List.getElem_mem _)
    omega
  | d+1=>by
    have G_qistree:=ok_isT X d
    have G_qwhole:=(ok_whole' (P:=P) (w:=w) (base:=base) X).mono (show 1 <= d+2 by omega)
    refine X.F_qistree.okQ sc_qistree (fun vs H Q E h=>?_) (fun cdv A outer s H vs Q E hr h=>?_)
    · obtain⟨_,_,_,_,_,rfl,_⟩:=h
      rfl
    obtain⟨v,a,us,rs,n,rfl,ha,hrs,ok,hn,hd,gt,q⟩:=h
    refine⟨_,(qss_cons (qs_set (i:=3) sc_qistree.nd rfl (Or.inl rfl) (qe_ix ix_list (qv 1) (qv 2) (fun _ _=>rfl))) (qss_cons (qs_if (qw_pt (qw_or (qt_not (qt_val (qe_callB call_isinst rfl X.z_isinstance PyProof.Rows.boot_isinstance (qaN (qv 0) (qaN (qe_bltn rfl X.z_tuple PyProof.Rows.boot_tuple rfl (v:=.ty "tuple")) qa_nil))))) (qw_or (qt_cmpR op_ne (qe_callB call_len_seq rfl X.z_len PySem.boot_len (qaN (qv 0) qa_nil)) qe_int (nomark _)) (qw_or (qt_not (qt_val (qe_callB call_isinst rfl X.z_isinstance PyProof.Rows.boot_isinstance (qaS (qe_ix ix_tup (qv 0) qe_int (fun _ _=>rfl)) (qaN (qe_bltn rfl X.z_str PyProof.Rows.boot_str rfl (v:=.ty "str")) qa_nil))))) (qw_or1 (qt_cmpR op_ne (qe_ix ix_tup (qv 0) qe_int (fun _ _=>rfl)) (qe_ix ix_tup (qv 3) qe_int (fun _ _=>rfl)) (nomark _))))))) (qss_one (qs_ret qe_bl)) qss_nil) (qss_cons (qs_if (qw_pt (qw_or (qt_not (qt_val (qe_call G_qwhole hr rfl X.m_qwhole X.F_qwhole.kp X.b_qwhole .nil pass0 (qaS (qe_ix ix_tup (qv 0) qe_int (fun _ _=>rfl)) qa_nil)))) (qw_or (qt_cmpR op_ne (qe_ix ix_tup (qv 0) qe_int (fun _ _=>rfl)) qe_int (nomark _)) (qw_or (qt_not (qt_val (qe_callB call_isinst rfl X.z_isinstance PyProof.Rows.boot_isinstance (qaS (qe_ix ix_tup (qv 0) qe_int (fun _ _=>rfl)) (qaN (qe_bltn rfl X.z_tuple PyProof.Rows.boot_tuple rfl (v:=.ty "tuple")) qa_nil))))) (qw_or1 (qt_cmpR op_ne (qe_callB call_len_seq rfl X.z_len PySem.boot_len (qaS (qe_ix ix_tup (qv 0) qe_int (fun _ _=>rfl)) qa_nil)) (qe_callB call_len_seq rfl X.z_len PySem.boot_len (qaS (qe_ix ix_tup (qv 3) qe_int (fun _ _=>rfl)) qa_nil)) (nomark _))))))) (qss_one (qs_ret qe_bl)) qss_nil) (qss_cons (qs_for PassesOwn.never rfl (qi_zipT rfl X.z_zip (qaS (qe_ix ix_tup (qv 0) qe_int (fun _ _=>rfl)) (qaS (qe_ix ix_tup (qv 3) qe_int (fun _ _=>rfl)) qa_nil))) (qg_tup rfl (qgs_cons (qg_name (i:=4) sc_qistree.nd rfl (Or.inl rfl)) (qgs_cons (qg_name (i:=5) sc_qistree.nd rfl (Or.inl rfl)) qgs_nil))) (qss_one (qs_if (qt_not (qt_val (qe_call G_qistree hr rfl X.m_qistree X.F_qistree.kp X.b_qistree .nil pass0 (qaN (qv 4) (qaN (qv 1) (qaN (qv 5) qa_nil)))))) (qss_one (qs_ret qe_bl)) qss_nil))) (qss_one (qs_ret qe_bl)))))),?_⟩
    dsimp only[cxOf]
    have lr:=hrs.len
    obtain⟨hv',hv⟩:=some_of_lt (xs:=us) (i:=n) (by omega)
    obtain⟨r,hr',p,rp,rus,t,rfl,hp,_,_,ht⟩:=hrs.get hv
    obtain⟨o1,o2⟩:=ok.2 n r hr'
    cases gt with
    | @node _ r2 p2 t2 vs2 g1 g2 g3 g4 g5=>
    rw[hr'] at g1
    cases g1
    have ll:(lowV r.low).length=r.low.length:=by unfold lowV;rw[List.length_map]
    refine⟨_,rfl,_,rfl,a,_,_,.ref p,rfl,rfl,SqL.of ha,atI_nat hv,?_⟩
    refine⟨_,rfl,_, "tuple",_,_,rfl,.tup g2,k_tt,_,rfl,iteF ?_⟩
    refine⟨_,rfl,p2,_,rfl,.inr (SqT.of g2),rfl,_,rfl,iteNe (fun h=>absurd rfl h) (fun _=>?_)⟩
    refine⟨_,rfl,p2,_,0,.str r.nm,rfl,rfl,SqT.of g2,rfl,_, "str",_,_,rfl,.str _,k_ss,_,rfl,iteF ?_⟩
    refine⟨_,rfl,p2,_,0,.str r.nm,rfl,rfl,SqT.of g2,rfl,_,rfl,p,_,2,.str r.nm,rfl,rfl,SqT.of hp,rfl,rfl,_,rfl,iteNe (fun h=>absurd rfl h) (fun _=>?_)⟩
    refine⟨_,rfl,p2,_,1,.int 0,rfl,rfl,SqT.of g2,rfl,0,rfl,_,rfl,iteF ?_⟩
    refine⟨_,rfl,p2,_,1,.int 0,rfl,rfl,SqT.of g2,rfl,rfl,_,rfl,iteNe (fun h=>absurd rfl h) (fun _=>?_)⟩
    refine⟨_,rfl,p2,_,2,.ref t2,rfl,rfl,SqT.of g2,rfl,_, "tuple",_,_,rfl,.tup g3,k_tt,_,rfl,iteF ?_⟩
    refine⟨_,rfl,p2,_,2,.ref t2,rfl,rfl,SqT.of g2,rfl,t2,_,rfl,.inr (SqT.of g3),_,rfl,p,_,3,.ref t,rfl,rfl,SqT.of hp,rfl,t,_,rfl,.inr (SqT.of ht),rfl,_,rfl,iteNe (fun h=>absurd (by rw[ll,g4]) h) (fun _=>?_)⟩
    refine⟨_,rfl,p2,_,2,.ref t2,rfl,rfl,SqT.of g2,rfl,_,rfl,p,_,3,.ref t,rfl,rfl,SqT.of hp,rfl,t2,t,vs2,lowV r.low,rfl,SqT.of g3,SqT.of ht,by rw[ll,g4],?_⟩
    refine for_wt (fun i σ H'=>(∃ x4 x5,σ=[some (.ref p2),some (.ref a),some (.int n),some (.ref p),x4,x5])/\Same H H') ⟨⟨none,none,rfl⟩,Same.refl _⟩ (fun i σ H' _ ⟨_,sm⟩=>⟨SqT.of (sm _ _ g3),SqT.of (sm _ _ ht)⟩) ?_ ?_
    · rintro i T' vs' σ H' hlt ⟨x,y,hx,hy,rfl⟩ ⟨⟨x4,x5,rfl⟩,sm⟩ hT
      have s1:=same_new hT (.tup [x,y])
      unfold lowV at hy
      rw[List.getElem?_map] at hy
      cases e:r.low[i]? with
      | none=>rw[e] at hy;cases hy
      | some m=>
        rw[e] at hy
        cases hy
        have hmem:=List.mem_of_getElem? e
        have:=dps_low ok hr' hmem
        have hlt':=o2 m hmem
        refine⟨T',_,rfl,SqT.of upd_same,rfl,_,_,rfl,_,_,rfl,rfl,?_⟩
        exact⟨_,rfl,_,rfl,_,rfl,x,a,us,rs,m,rfl,(sm.trans s1) _ _ ha,hrs.imp fun _ _ h=>RwIs.same (sm.trans s1) h,ok,by omega,by omega,(g5 i m x e hx).same (sameT (sm.trans s1)),fun H2 s2=>⟨_,rfl,iteF ⟨⟨_,_,rfl⟩,(sm.trans s1).trans s2⟩⟩⟩
    · rintro σ H' ⟨⟨x4,x5,rfl⟩,sm⟩
      exact q H' sm
end
end K35
namespace K35
open PySem L2 TR SP
open TM
def LwL (H:Hp) (low:List Nat) (v:V):Prop:=∃ p,v=.ref p/\H p=some (.lst (lowV low))
def Nd (H:Hp) (v:V):Prop:=∃ p nm r,v=.ref p/\H p=some (.tup (.str nm::r))
theorem Nd.same {H H':Hp} (s:SameT H H') {v:V} (h:Nd H v):Nd H' v:=let ⟨p,nm,r,e,h⟩:=h;⟨p,nm,r,e,s _ _ h⟩
def CaseQ (H:Hp) (Q:VK):Prop:=∀ (l L:Addr) (g:V) (us:List V) (rs:List Rw) (H':Hp),Same H H'->H' l=some (.lst [g,.ref L])->H' L=some (.lst us)->L2R (RwIs H') rs us->RwOk rs->1 <= rs.length->Q (.ref l) H'
def spWide:Sp:=fun vs H Q _=>∃ (a:Addr) (cs:List Int) (wy:Int),vs=[.ref a,.int wy]/\H a=some (.lst (cs.map V.int))/\cs.length <= 63/\0 <= wy/\wy < 3/\CaseQ H Q
theorem RwOk.snoc {rs:List Rw} {r:Rw} (h:RwOk rs) (l:rs.length < 100) (h3:r.low.length <= 3) (hl:∀ n ∈ r.low,n < rs.length):RwOk (rs++[r]):=by
  refine⟨by rw[List.length_append];exact l,fun i x hx=>?_⟩
  by_cases hi:i < rs.length
  · rw[List.getElem?_append_left hi] at hx
    exact h.2 i x hx
  · rw[List.getElem?_append_right (by omega)] at hx
    have h0:i - rs.length=0:=by
      have:=lt_of_some hx
      simp at this
      omega
    rw[h0] at hx
    cases hx
    exact⟨h3,fun n hn=>by have:=hl n hn;omega⟩
noncomputable def sixtyL:List (List Nat):=[[],[0,0,0],[1,1,1],[2],[3,3],[4,0,4]]
noncomputable def moreL:List (List Nat):=[[],[0,0,0],[1,1],[2,2],[3],[4,4,4]]
theorem low_ok:∀ i < 6,(∀ n ∈ sixtyL.getD i [],n < i)/\(sixtyL.getD i []).length <= 3/\(∀ n ∈ moreL.getD i [],n < i)/\(moreL.getD i []).length <= 3:=by decide
section
variable {P:Program} {w:World} {K:PySem.W.Frag} {mg:Str->Option Value} {base:Heap} {T:Adr}
theorem ok_wide (X:Tx K mg T):FnOk P w K mg base CX0 2 T.qwide T.d_qwide ["_law_cells", "_law_way"] spWide:=by
  have G_qword:=ok_word (P:=P) (w:=w) (base:=base) X
  refine X.F_qwide.okQ sc_qwide (fun vs H Q E h=>?_) (fun cdv A outer s H vs Q E hr h=>?_)
  · obtain⟨_,_,_,rfl,_⟩:=h
    rfl
  obtain⟨a,cs,wy,rfl,ha,l63,w0,w3,q⟩:=h
  refine⟨_,(qss_cons (qs_set (i:=2) sc_qwide.nd rfl (Or.inl rfl) (qe_op op_mod (qe_callB (call_sum rfl) rfl X.z_sum PyProof.Rows.boot_sum (qaN (qv 0) qa_nil)) qe_int)) (qss_cons (qs_set (i:=3) sc_qwide.nd rfl (Or.inl rfl) (qe_lst (qaL (qe_lst qa_nil) (qaL (qe_lst (qaC qe_int (qaC qe_int (qaC qe_int qa_nil)))) (qaL (qe_lst (qaC qe_int (qaC qe_int (qaC qe_int qa_nil)))) (qaL (qe_lst (qaC qe_int qa_nil)) (qaL (qe_lst (qaC qe_int (qaC qe_int qa_nil))) (qaL (qe_lst (qaC qe_int (qaC qe_int (qaC qe_int qa_nil)))) qa_nil)))))))) (qss_cons (qs_set (i:=4) sc_qwide.nd rfl (Or.inl rfl) (qe_lst (qaL (qe_lst qa_nil) (qaL (qe_lst (qaC qe_int (qaC qe_int (qaC qe_int qa_nil)))) (qaL (qe_lst (qaC qe_int (qaC qe_int qa_nil))) (qaL (qe_lst (qaC qe_int (qaC qe_int qa_nil))) (qaL (qe_lst (qaC qe_int qa_nil)) (qaL (qe_lst (qaC qe_int (qaC qe_int (qaC qe_int qa_nil)))) qa_nil)))))))) (qss_cons (qs_set (i:=5) sc_qwide.nd rfl (Or.inr rfl) (qe_lst qa_nil)) (qss_cons (qs_set (i:=6) sc_qwide.nd rfl (Or.inl rfl) (qe_lst qa_nil)) (qss_cons (qs_set (i:=7) sc_qwide.nd rfl (Or.inl rfl) (qe_lst qa_nil)) (qss_cons (qs_for PassesOwn.never rfl (qi_range1 rfl X.z_range (qaC qe_int qa_nil)) (qg_name (i:=8) sc_qwide.nd rfl (Or.inr rfl)) (qss_cons (qs_set (i:=9) sc_qwide.nd rfl (Or.inr rfl) (qe_ix ix_list (qe_op op_cat (qv 0) (qe_op op_rep (qe_lst (qaN (qv 2) qa_nil)) qe_int)) (qv 8) (fun _ _=>rfl))) (qss_cons (qs_setC (ys:=["_law_k", "_law_cell"]) (js:=[8,9]) rfl rfl (qi_range1 rfl X.z_range (qaK (qe_callB (call_min2 rfl) rfl X.z_min PyProof.Rows.boot_min (qaB (qe_op op_mul qe_int (qv 8)) (qaS (qe_ix ix_list (qe_lst (qaC qe_int (qaC qe_int (qaC qe_int (qaC qe_int qa_nil))))) (qe_op op_mod (qv 9) qe_int) (fun _ _=>rfl)) qa_nil))) qa_nil)) (fun _ _ _ _ _=>qif_nil) (fun _ _ _ _ _=>(qe_op op_mod (qe_op op_fdiv (qv 2) (qe_op op_add qe_int (qe_op op_mul qe_int (qv 0)))) (qe_callB (call_max2 rfl) rfl X.z_max PyProof.Rows.boot_max (qaC qe_int (qaN (qv 1) qa_nil))))) (qg_name (i:=10) sc_qwide.nd rfl (Or.inl rfl)) rfl) (qss_cons (qs_set (i:=10) sc_qwide.nd rfl (Or.inl rfl) (qe_ix ix_list (qe_lst (qaN (qv 10) (qaS (qe_ix ix_list (qv 3) (qv 8) (fun _ _=>rfl)) (qaS (qe_ix ix_list (qv 4) (qv 8) (fun _ _=>rfl)) qa_nil)))) (qv 1) (fun _ _=>rfl))) (qss_cons (qs_expr (qe_bm PySem.F.plainAttrs_list PySem.F.slot_list_append PySem.F.type_list_append mt_append (qv 5) (qaT (qe_tup (qaK (qe_call G_qword hr rfl X.m_qword X.F_qword.kp X.b_qword .nil pass0 (qaN (qv 2) (qaN (qv 8) qa_nil))) (qaT (qe_tup qa_nil) (qaT (qe_tup qa_nil) qa_nil)))) qa_nil))) (qss_cons (qs_expr (qe_bm PySem.F.plainAttrs_list PySem.F.slot_list_append PySem.F.type_list_append mt_append (qv 6) (qaT (qe_tup (qaK (qe_call G_qword hr rfl X.m_qword X.F_qword.kp X.b_qword .nil pass0 (qaB (qe_op op_fdiv (qv 2) qe_int) (qaN (qv 8) qa_nil))) (qaS (qe_ix ix_tup (qe_ix ix_list (qv 5) (qv 8) (fun _ _=>rfl)) qe_int (fun _ _=>rfl)) (qaK (qe_callTy call_tuple_of rfl X.z_tuple PyProof.Rows.boot_tuple (qaE (qe_comp (ys:=["_law_signs_here"]) (js:=[5]) rfl rfl (qi_list (qv 10)) (fun _ _ _ _ _=>qif_nil) (fun _ _ _ _ _=>(qe_ix (ix_tupC (K:=K) rfl) (qe_ix (ix_listC (K:=K) rfl) (qv 1) (qv 0) (fun _ _=>rfl)) qe_int (fun _ _=>rfl)))) qa_nil)) (qaT (qe_tup qa_nil) qa_nil))))) qa_nil))) (qss_one (qs_expr (qe_bm PySem.F.plainAttrs_list PySem.F.slot_list_append PySem.F.type_list_append mt_append (qv 7) (qaT (qe_tup (qaS (qe_ix ix_tup (qe_ix ix_list (qv 5) (qv 8) (fun _ _=>rfl)) qe_int (fun _ _=>rfl)) (qaT (qe_tup qa_nil) (qaS (qe_ix ix_tup (qe_ix ix_list (qv 6) (qv 8) (fun _ _=>rfl)) qe_int (fun _ _=>rfl)) (qaK (qe_callTy call_tuple_of rfl X.z_tuple PyProof.Rows.boot_tuple (qaN (qv 10) qa_nil)) qa_nil))))) qa_nil)))))))))) (qss_one (qs_ret (qe_lst (qaT (qe_tup (qaK (qe_callTy call_tuple_of rfl X.z_tuple PyProof.Rows.boot_tuple (qaN (qv 5) qa_nil)) (qaK (qe_callTy call_tuple_of rfl X.z_tuple PyProof.Rows.boot_tuple (qaN (qv 6) qa_nil)) qa_nil))) (qaN (qv 7) qa_nil)))))))))))),?_⟩
  dsimp only[cxOf]
  refine⟨_,rfl,a,cs,rfl,SqL.of ha,_,_,rfl,rfl,(by show (0:Int) < 999999937;decide),?_⟩
  dsimp only
  generalize cs.sum % 999999937=wh
  refine⟨(by show 0 <= sizeLine;decide),fun p0 h0=>⟨(by show 3 <= sizeLine;decide),fun p1 h1=>⟨(by show 3 <= sizeLine;decide),fun p2 h2=>⟨(by show 1 <= sizeLine;decide),fun p3 h3=>⟨(by show 2 <= sizeLine;decide),fun p4 h4=>⟨(by show 3 <= sizeLine;decide),fun p5 h5=>⟨(by show 6 <= sizeLine;decide),fun S6 hS6=>?_⟩⟩⟩⟩⟩⟩⟩
  have zA0:=same_new h0 (.lst [])
  have zA1:=same_new h1 (.lst [.int 0,.int 0,.int 0])
  have zA2:=same_new h2 (.lst [.int 1,.int 1,.int 1])
  have zA3:=same_new h3 (.lst [.int 2])
  have zA4:=same_new h4 (.lst [.int 3,.int 3])
  have zA5:=same_new h5 (.lst [.int 4,.int 0,.int 4])
  have zA6:=same_new hS6 (.lst [.ref p0,.ref p1,.ref p2,.ref p3,.ref p4,.ref p5])
  have eA:(upd (upd (upd (upd (upd (upd (upd H p0 (.lst [])) p1 (.lst [.int 0,.int 0,.int 0])) p2 (.lst [.int 1,.int 1,.int 1])) p3 (.lst [.int 2])) p4 (.lst [.int 3,.int 3])) p5 (.lst [.int 4,.int 0,.int 4])) S6 (.lst [.ref p0,.ref p1,.ref p2,.ref p3,.ref p4,.ref p5])) S6=some (.lst [.ref p0,.ref p1,.ref p2,.ref p3,.ref p4,.ref p5]):=upd_same
  have gA:L2R (LwL (upd (upd (upd (upd (upd (upd (upd H p0 (.lst [])) p1 (.lst [.int 0,.int 0,.int 0])) p2 (.lst [.int 1,.int 1,.int 1])) p3 (.lst [.int 2])) p4 (.lst [.int 3,.int 3])) p5 (.lst [.int 4,.int 0,.int 4])) S6 (.lst [.ref p0,.ref p1,.ref p2,.ref p3,.ref p4,.ref p5]))) sixtyL [.ref p0,.ref p1,.ref p2,.ref p3,.ref p4,.ref p5]:=(.cons ⟨p0,rfl,(zA1.trans (zA2.trans (zA3.trans (zA4.trans (zA5.trans zA6))))) _ _ upd_same⟩ (.cons ⟨p1,rfl,(zA2.trans (zA3.trans (zA4.trans (zA5.trans zA6)))) _ _ upd_same⟩ (.cons ⟨p2,rfl,(zA3.trans (zA4.trans (zA5.trans zA6))) _ _ upd_same⟩ (.cons ⟨p3,rfl,(zA4.trans (zA5.trans zA6)) _ _ upd_same⟩ (.cons ⟨p4,rfl,(zA5.trans zA6) _ _ upd_same⟩ (.cons ⟨p5,rfl,zA6 _ _ upd_same⟩ .nil))))))
  have sA:Same H (upd (upd (upd (upd (upd (upd (upd H p0 (.lst [])) p1 (.lst [.int 0,.int 0,.int 0])) p2 (.lst [.int 1,.int 1,.int 1])) p3 (.lst [.int 2])) p4 (.lst [.int 3,.int 3])) p5 (.lst [.int 4,.int 0,.int 4])) S6 (.lst [.ref p0,.ref p1,.ref p2,.ref p3,.ref p4,.ref p5])):=(zA0.trans (zA1.trans (zA2.trans (zA3.trans (zA4.trans (zA5.trans zA6))))))
  generalize (upd (upd (upd (upd (upd (upd (upd H p0 (.lst [])) p1 (.lst [.int 0,.int 0,.int 0])) p2 (.lst [.int 1,.int 1,.int 1])) p3 (.lst [.int 2])) p4 (.lst [.int 3,.int 3])) p5 (.lst [.int 4,.int 0,.int 4])) S6 (.lst [.ref p0,.ref p1,.ref p2,.ref p3,.ref p4,.ref p5]))=B1 at eA gA sA ⊢
  clear h0 h1 h2 h3 h4 h5 hS6
  refine⟨(by show 0 <= sizeLine;decide),fun q0 h0=>⟨(by show 3 <= sizeLine;decide),fun q1 h1=>⟨(by show 2 <= sizeLine;decide),fun q2 h2=>⟨(by show 2 <= sizeLine;decide),fun q3 h3=>⟨(by show 1 <= sizeLine;decide),fun q4 h4=>⟨(by show 3 <= sizeLine;decide),fun q5 h5=>⟨(by show 6 <= sizeLine;decide),fun M6 hM6=>?_⟩⟩⟩⟩⟩⟩⟩
  have zB0:=same_new h0 (.lst [])
  have zB1:=same_new h1 (.lst [.int 0,.int 0,.int 0])
  have zB2:=same_new h2 (.lst [.int 1,.int 1])
  have zB3:=same_new h3 (.lst [.int 2,.int 2])
  have zB4:=same_new h4 (.lst [.int 3])
  have zB5:=same_new h5 (.lst [.int 4,.int 4,.int 4])
  have zB6:=same_new hM6 (.lst [.ref q0,.ref q1,.ref q2,.ref q3,.ref q4,.ref q5])
  have eB:(upd (upd (upd (upd (upd (upd (upd B1 q0 (.lst [])) q1 (.lst [.int 0,.int 0,.int 0])) q2 (.lst [.int 1,.int 1])) q3 (.lst [.int 2,.int 2])) q4 (.lst [.int 3])) q5 (.lst [.int 4,.int 4,.int 4])) M6 (.lst [.ref q0,.ref q1,.ref q2,.ref q3,.ref q4,.ref q5])) M6=some (.lst [.ref q0,.ref q1,.ref q2,.ref q3,.ref q4,.ref q5]):=upd_same
  have gB:L2R (LwL (upd (upd (upd (upd (upd (upd (upd B1 q0 (.lst [])) q1 (.lst [.int 0,.int 0,.int 0])) q2 (.lst [.int 1,.int 1])) q3 (.lst [.int 2,.int 2])) q4 (.lst [.int 3])) q5 (.lst [.int 4,.int 4,.int 4])) M6 (.lst [.ref q0,.ref q1,.ref q2,.ref q3,.ref q4,.ref q5]))) moreL [.ref q0,.ref q1,.ref q2,.ref q3,.ref q4,.ref q5]:=(.cons ⟨q0,rfl,(zB1.trans (zB2.trans (zB3.trans (zB4.trans (zB5.trans zB6))))) _ _ upd_same⟩ (.cons ⟨q1,rfl,(zB2.trans (zB3.trans (zB4.trans (zB5.trans zB6)))) _ _ upd_same⟩ (.cons ⟨q2,rfl,(zB3.trans (zB4.trans (zB5.trans zB6))) _ _ upd_same⟩ (.cons ⟨q3,rfl,(zB4.trans (zB5.trans zB6)) _ _ upd_same⟩ (.cons ⟨q4,rfl,(zB5.trans zB6) _ _ upd_same⟩ (.cons ⟨q5,rfl,zB6 _ _ upd_same⟩ .nil))))))
  have sB:Same B1 (upd (upd (upd (upd (upd (upd (upd B1 q0 (.lst [])) q1 (.lst [.int 0,.int 0,.int 0])) q2 (.lst [.int 1,.int 1])) q3 (.lst [.int 2,.int 2])) q4 (.lst [.int 3])) q5 (.lst [.int 4,.int 4,.int 4])) M6 (.lst [.ref q0,.ref q1,.ref q2,.ref q3,.ref q4,.ref q5])):=(zB0.trans (zB1.trans (zB2.trans (zB3.trans (zB4.trans (zB5.trans zB6))))))
  generalize (upd (upd (upd (upd (upd (upd (upd B1 q0 (.lst [])) q1 (.lst [.int 0,.int 0,.int 0])) q2 (.lst [.int 1,.int 1])) q3 (.lst [.int 2,.int 2])) q4 (.lst [.int 3])) q5 (.lst [.int 4,.int 4,.int 4])) M6 (.lst [.ref q0,.ref q1,.ref q2,.ref q3,.ref q4,.ref q5]))=B2 at eB gB sB ⊢
  have eA2:=sB _ _ eA
  have gA2:L2R (LwL B2) sixtyL [.ref p0,.ref p1,.ref p2,.ref p3,.ref p4,.ref p5]:=gA.imp fun _ _ ⟨p,e,h⟩=>⟨p,e,sB _ _ h⟩
  have s2:=sA.trans sB
  clear sA sB gA eA h0 h1 h2 h3 h4 h5 hM6
  refine⟨(by show 0 <= sizeLine;decide),fun SS hSS=>?_⟩
  have t1:=same_new hSS (.lst [])
  refine⟨(by show 0 <= sizeLine;decide),fun FF hFF=>?_⟩
  have t2:=same_new hFF (.lst [])
  refine⟨(by show 0 <= sizeLine;decide),fun RR hRR=>?_⟩
  have t3:=same_new hRR (.lst [])
  have hS3:=(t2.trans t3) _ _ (upd_same (H:=B2) (a:=SS) (o:=.lst []))
  have hF3:=t3 _ _ (upd_same (H:=upd B2 SS (.lst [])) (a:=FF) (o:=.lst []))
  have hR3:=upd_same (H:=upd (upd B2 SS (.lst [])) FF (.lst [])) (a:=RR) (o:=.lst [])
  have nSF:FF ≠ SS:=fun z=>by rw[z,upd_same] at hFF;cases hFF
  have nRF:RR ≠ FF:=fun z=>by rw[z,upd_same] at hRR;cases hRR
  have nRS:RR ≠ SS:=fun z=>by rw[z,t2 _ _ upd_same] at hRR;cases hRR
  have fS:H SS=none:=s2.free hSS
  have fF:H FF=none:=s2.free (t1.free hFF)
  have fR:H RR=none:=s2.free (t1.free (t2.free hRR))
  have tA:=t1.trans (t2.trans t3)
  have eA3:=tA _ _ eA2
  have eB3:=tA _ _ eB
  have gA3:L2R (LwL (upd (upd (upd B2 SS (.lst [])) FF (.lst [])) RR (.lst []))) sixtyL [.ref p0,.ref p1,.ref p2,.ref p3,.ref p4,.ref p5]:=gA2.imp fun _ _ ⟨p,e,h⟩=>⟨p,e,tA _ _ h⟩
  have gB3:L2R (LwL (upd (upd (upd B2 SS (.lst [])) FF (.lst [])) RR (.lst []))) moreL [.ref q0,.ref q1,.ref q2,.ref q3,.ref q4,.ref q5]:=gB.imp fun _ _ ⟨p,e,h⟩=>⟨p,e,tA _ _ h⟩
  have s3:=s2.trans tA
  have apart:∀ {p:Addr} {o:HO},B2 p=some o->p ∉ [SS,FF,RR]:=fun {p o} h z=>by
    rcases List.mem_cons.mp z with rfl | z
    · rw[hSS] at h;cases h
    · rcases List.mem_cons.mp z with rfl | z
      · rw[t1.free hFF] at h;cases h
      · rw[List.mem_singleton.mp z,t1.free (t2.free hRR)] at h;cases h
  generalize upd (upd (upd B2 SS (.lst [])) FF (.lst [])) RR (.lst [])=B3 at hS3 hF3 hR3 tA eA3 eB3 gA3 gB3 s3 ⊢
  refine⟨_,rfl,(by decide),(by decide),?_⟩
  refine for_range (n:=6) (fun i σ H'=>∃ (sus fus rus:List V) (rs:List Rw) (x8 x9 x10:Option V),σ=[some (.ref a),some (.int wy),some (.int wh),some (.ref S6),some (.ref M6),some (.ref SS),some (.ref FF),some (.ref RR),x8,x9,x10]/\Same H H'/\Kp [SS,FF,RR] B3 H'/\H' SS=some (.lst sus)/\sus.length=i/\(∀ v ∈ sus,Nd H' v)/\H' FF=some (.lst fus)/\fus.length=i/\(∀ v ∈ fus,Nd H' v)/\H' RR=some (.lst rus)/\L2R (RwIs H') rs rus/\rs.length=i/\RwOk rs)
    ⟨[],[],[],[],none,none,none,rfl,s3,Kp.refl _ _,hS3,rfl,(fun v h=>nomatch h),hF3,rfl,(fun v h=>nomatch h),hR3,.nil,rfl,by decide,fun i r h=>by simp at h⟩ ?_ ?_
  · rintro i σ H' hi ⟨sus,fus,rus,rs,x8,x9,x10,rfl,sm,kp,hS,lS,nS,hF,lF,nF,hR,hrs,lR,ok⟩
    have e0:(0+(i:Int))=(i:Int):=by omega
    refine⟨_,rfl,_,rfl,(by show 1 <= sizeLine;decide),fun b1 hb1=>?_⟩
    have j1:=same_new hb1 (.lst [.int wh])
    refine⟨b1,6,[.int wh],rfl,rfl,upd_same,by decide,by decide,(by show 1 * 6 <= sizeLine;decide),fun b2 hb2=>?_⟩
    have j2:=same_new hb2 (.lst (List.replicate (Int.toNat 6) [V.int wh]).flatten)
    refine⟨a,b2,_,_,rfl,rfl,(j1.trans j2) _ _ (sm _ _ ha),upd_same,fits2 (by rw[List.length_map];show cs.length+6 <= 100000;omega),fun b3 hb3=>?_⟩
    have j3:=same_new hb3 (.lst (cs.map V.int++(List.replicate (Int.toNat 6) [V.int wh]).flatten))
    have allint:∀ v ∈ (cs.map V.int++(List.replicate (Int.toNat 6) [V.int wh]).flatten),∃ z:Int,v=.int z:=fun v hv=>by
      rcases List.mem_append.mp hv with h | h
      · obtain⟨z,_,rfl⟩:=List.mem_map.mp h;exact⟨z,rfl⟩
      · obtain⟨l,hl,hv⟩:=List.mem_flatten.mp h
        rw[(List.mem_replicate.mp hl).2] at hv
        exact⟨wh,List.mem_singleton.mp hv⟩
    obtain⟨u,hu⟩:=some_of_lt (xs:=cs.map V.int++(List.replicate (Int.toNat 6) [V.int wh]).flatten) (i:=i) (by rw[List.length_append];show i < _+6;omega)
    obtain⟨c,rfl⟩:=allint u (List.mem_of_getElem? hu)
    refine⟨_,rfl,b3,_,_,.int c,rfl,rfl,SqL.of upd_same,by rw[e0];exact atI_nat hu,?_⟩
    have jA:=j1.trans (j2.trans j3)
    have sm1:=sm.trans jA
    have kp1:=kp.same jA
    have hS1:=jA _ _ hS
    have hF1:=jA _ _ hF
    have hR1:=jA _ _ hR
    have T1:=sameT jA
    generalize upd (upd (upd H' b1 (.lst [V.int wh])) b2 (.lst (List.replicate (Int.toNat 6) [V.int wh]).flatten)) b3 (.lst (cs.map V.int++(List.replicate (Int.toNat 6) [V.int wh]).flatten))=H1 at jA sm1 kp1 hS1 hF1 hR1 T1 ⊢
    refine⟨_,rfl,_,_,rfl,rfl,.inl ⟨by decide,by decide⟩,(by show 4 <= sizeLine;decide),fun b4 hb4=>?_⟩
    have j4:=same_new hb4 (.lst [.int 3,.int 1,.int 2,.int 3])
    obtain⟨m,hm,m0,m3⟩ : ∃ m:Int,atI [V.int 3,V.int 1,V.int 2,V.int 3] (c % 4)=some (.int m)/\0 <= m/\m <= 3:=by
      have:c % 4=0\/c % 4=1\/c % 4=2\/c % 4=3:=by omega
      rcases this with e | e | e | e <;> rw[e] <;> exact⟨_,rfl,by decide,by decide⟩
    refine⟨_,rfl,_,_,rfl,rfl,(by show (0:Int) < 4;decide),b4,_,_,.int m,rfl,rfl,SqL.of upd_same,hm,_,_,rfl,?_⟩
    generalize hN:(if m < 3 * (0+(i:Int)) then m else 3 * (0+(i:Int)))=N
    have N0:0 <= N:=by rw[<- hN];split <;> omega
    have N3:N <= 3:=by rw[<- hN];split <;> omega
    have Ni:0 < N->0 < i:=fun h=>by rw[<- hN] at h;split at h <;> omega
    have sm2:=sm1.trans j4
    have kp2:=kp1.same j4
    have hS2:=j4 _ _ hS1
    have hF2:=j4 _ _ hF1
    have hR2:=j4 _ _ hR1
    have T2:=T1.trans (sameT j4)
    generalize upd H1 b4 (.lst [V.int 3,V.int 1,V.int 2,V.int 3])=H2 at sm2 kp2 hS2 hF2 hR2 T2 ⊢
    refine⟨_,rfl,by omega,by omega,fun C hC=>?_⟩
    refine comp_rng (fun j acc J=>∃ ls:List Nat,ls.length=j/\(∀ n ∈ ls,n < i)/\acc=lowV ls/\Same H2 J/\J C=some (.lst acc)) (Nat.lt_of_le_of_lt (show N.toNat <= 1000 by omega) (by decide)) ⟨[],rfl,(fun n h=>nomatch h),rfl,same_new hC _,upd_same⟩ (fun j acc J ⟨ls,l,_,e,_,d⟩=>⟨d,by rw[e];unfold lowV;rw[List.length_map,l]⟩) ?_ ?_
    · rintro j m' acc J hj ⟨ls,lls,hls,rfl,smJ,hCJ⟩ hm'
      have i1:=Ni (by omega)
      have dv:CDiv c (4+5 * (0+(j:Int))):=by
        have:j=0\/j=1\/j=2:=by omega
        rcases this with rfl | rfl | rfl <;> exact⟨by decide,by decide⟩
      have mxp:(if (0+(i:Int)) > 1 then (0+(i:Int)) else 1)=(i:Int):=by split <;> omega
      have y0:=Int.emod_nonneg (c / (4+5 * (0+(j:Int)))) (show (i:Int) ≠ 0 by omega)
      have y1:=Int.emod_lt_of_pos (c / (4+5 * (0+(j:Int)))) (show (0:Int) < i by omega)
      refine⟨_,rfl,_,rfl,_,_,rfl,rfl,.inl ⟨by decide,by decide⟩,_,_,rfl,rfl,_,_,rfl,rfl,dv,_,rfl,_,_,rfl,_,_,rfl,rfl,(by show (0:Int) < (if (0+(i:Int)) > 1 then (0+(i:Int)) else 1);rw[mxp];omega),?_⟩
      rw[mxp]
      refine cstep hj hm' hCJ ⟨ls++[(c / (4+5 * (0+(j:Int))) % (i:Int)).toNat],by rw[List.length_append,lls];rfl,fun n hn=>?_,?_,same_upd hC smJ,upd_same⟩
      · rcases List.mem_append.mp hn with h | h
        · exact hls n h
        · rw[List.mem_singleton.mp h];omega
      · unfold lowV
        rw[List.map_append]
        congr 1
        show [V.int _]=[V.int _]
        rw[Int.toNat_of_nonneg y0]
    rintro lacc H3 ⟨ls,lls,hls,rfl,s3',hC3⟩
    have hkB:∀ {p:Addr} {o:HO},B2 p=some o->H3 p=some o:=fun {p o} h=>s3' _ _ (kp2 _ _ (apart h) (tA _ _ h))
    have hi6:i < 6:=hi
    obtain⟨o1,o2,o3,o4⟩:=low_ok i hi6
    obtain⟨v6,hv6⟩:=some_of_lt (xs:=[V.ref p0,.ref p1,.ref p2,.ref p3,.ref p4,.ref p5]) (i:=i) hi6
    obtain⟨l6,hl6,a6,rfl,ha6⟩:=gA2.get hv6
    obtain⟨v7,hv7⟩:=some_of_lt (xs:=[V.ref q0,.ref q1,.ref q2,.ref q3,.ref q4,.ref q5]) (i:=i) hi6
    obtain⟨l7,hl7,a7,rfl,ha7⟩:=gB.get hv7
    rw[show sixtyL.getD i []=l6 by rw[List.getD_eq_getElem?_getD,hl6];rfl] at o1 o2
    rw[show moreL.getD i []=l7 by rw[List.getD_eq_getElem?_getD,hl7];rfl] at o3 o4
    refine⟨_,rfl,_,rfl,_,rfl,S6,_,_,.ref a6,rfl,rfl,SqL.of (hkB eA2),by rw[e0];exact atI_nat hv6,_,rfl,_,rfl,M6,_,_,.ref a7,rfl,rfl,SqL.of (hkB eB),by rw[e0];exact atI_nat hv7,(by show 3 <= sizeLine;decide),fun b5 hb5=>?_⟩
    have j5:=same_new hb5 (.lst [.ref C,.ref a6,.ref a7])
    have cn:C ∉ [SS,FF,RR]:=fun z=>by
      rcases List.mem_cons.mp z with rfl | z
      · rw[hS2] at hC;cases hC
      · rcases List.mem_cons.mp z with rfl | z
        · rw[hF2] at hC;cases hC
        · rw[List.mem_singleton.mp z,hR2] at hC;cases hC
    obtain⟨Lw,lo,hat,hLw,hlo,llo,nL⟩ : ∃ (Lw:Addr) (lo:List Nat),atI [V.ref C,.ref a6,.ref a7] wy=some (.ref Lw)/\H3 Lw=some (.lst (lowV lo))/\(∀ n ∈ lo,n < i)/\lo.length <= 3/\Lw ∉ [SS,FF,RR]:=by
      have:wy=0\/wy=1\/wy=2:=by omega
      rcases this with rfl | rfl | rfl
      · exact⟨C,ls,rfl,hC3,hls,by omega,cn⟩
      · exact⟨a6,l6,rfl,hkB ha6,o1,o2,apart ha6⟩
      · exact⟨a7,l7,rfl,hkB ha7,o3,o4,apart ha7⟩
    refine⟨_,rfl,b5,_,_,.ref Lw,rfl,rfl,SqL.of upd_same,hat,?_⟩
    have s4:=s3'.trans j5
    have sm4:=sm2.trans s4
    have kp4:=kp2.same s4
    have hS4:=s4 _ _ hS2
    have hF4:=s4 _ _ hF2
    have hR4:=s4 _ _ hR2
    have T4:=T2.trans (sameT s4)
    have hLw4:=j5 _ _ hLw
    generalize upd H3 b5 (.lst [V.ref C,.ref a6,.ref a7])=H4 at sm4 kp4 hS4 hF4 hR4 T4 hLw4 ⊢
    clear s4 s3' j5 hC3 hkB hLw
    refine⟨_,rfl,.inl ⟨rfl,_,SqL.of hS4⟩,_,rfl,_,rfl,wh,_,rfl,(by show 0 <= sizeLine;decide),fun c1 hc1=>⟨(by show 0 <= sizeLine;decide),fun c2 hc2=>⟨(by show 3 <= sizeLine;decide),fun c3 hc3=>?_⟩⟩⟩
    have k1:=same_new hc1 (.tup [])
    have k2:=same_new hc2 (.tup [])
    have k3:=same_new hc3 (.tup [.str (wrd wh (0+(i:Int))),.ref c1,.ref c2])
    have kA:=k1.trans (k2.trans k3)
    have hc3':=upd_same (H:=upd (upd H4 c1 (.tup [])) c2 (.tup [])) (a:=c3) (o:=.tup [.str (wrd wh (0+(i:Int))),.ref c1,.ref c2])
    refine⟨SS,sus,_,rfl,rfl,kA _ _ hS4,fitsL (by omega),?_⟩
    have hS5':=kA _ _ hS4
    have sm5:=sm4.trans kA
    have kp5:=kp4.same kA
    have hF5:=kA _ _ hF4
    have hR5:=kA _ _ hR4
    have T5:=T4.trans (sameT kA)
    have hLw5:=kA _ _ hLw4
    generalize upd (upd (upd H4 c1 (.tup [])) c2 (.tup [])) c3 (.tup [.str (wrd wh (0+(i:Int))),.ref c1,.ref c2])=H5 at hc3' hS5' sm5 kp5 hF5 hR5 T5 hLw5 ⊢
    have TL:SameT H5 (upd H5 SS (.lst (sus++[.ref c3]))):=sameT_lst hS5'
    have hS6':=upd_same (H:=H5) (a:=SS) (o:=.lst (sus++[.ref c3]))
    have sm6:Same H (upd H5 SS (.lst (sus++[.ref c3]))):=same_upd fS sm5
    have kp6:Kp [SS,FF,RR] B3 (upd H5 SS (.lst (sus++[.ref c3]))):=kp5.upd (by simp)
    have hF6:upd H5 SS (.lst (sus++[.ref c3])) FF=some (.lst fus):=by rw[upd_ne nSF];exact hF5
    have hR6:upd H5 SS (.lst (sus++[.ref c3])) RR=some (.lst rus):=by rw[upd_ne nRS];exact hR5
    have nLS:Lw ≠ SS:=fun z=>nL (by simp[z])
    have hLw6:upd H5 SS (.lst (sus++[.ref c3])) Lw=some (.lst (lowV lo)):=by rw[upd_ne nLS];exact hLw5
    have T6:=T5.trans TL
    have hc6:=TL _ _ hc3'
    have nS6:∀ v ∈ sus++[.ref c3],Nd (upd H5 SS (.lst (sus++[.ref c3]))) v:=fun v hv=>by
      rcases List.mem_append.mp hv with h | h
      · exact (nS v h).same T6
      · rw[List.mem_singleton.mp h];exact⟨c3,_,_,rfl,hc6⟩
    have nF6:∀ v ∈ fus,Nd (upd H5 SS (.lst (sus++[.ref c3]))) v:=fun v hv=>(nF v hv).same T6
    have hrs6:L2R (RwIs (upd H5 SS (.lst (sus++[.ref c3])))) rs rus:=hrs.imp fun _ _ h=>RwIs.sameT T6 h
    generalize upd H5 SS (.lst (sus++[.ref c3]))=H6 at hS6' sm6 kp6 hF6 hR6 hLw6 hc6 nS6 nF6 hrs6 ⊢
    have lS6:(sus++[V.ref c3]).length=i+1:=by rw[List.length_append,lS];rfl
    have hci:(sus++[V.ref c3])[i]?=some (.ref c3):=by rw[List.getElem?_append_right (by omega),lS,Nat.sub_self];rfl
    refine⟨_,rfl,.inl ⟨rfl,_,SqL.of hF6⟩,_,rfl,_,_,rfl,rfl,⟨by decide,by decide⟩,_,rfl,wh / 3,_,rfl,_,rfl,_,rfl,SS,_,_,.ref c3,rfl,rfl,SqL.of hS6',by rw[e0];exact atI_nat hci,c3,_,0,.str _,rfl,rfl,SqT.of hc6,rfl,_,rfl,Lw,rfl,⟨_,SqL.of hLw6⟩,fun C2 hC2=>?_⟩
    have llv:(lowV lo).length=lo.length:=by unfold lowV;rw[List.length_map]
    refine comp_lstR (K:=K) (xs:=lowV lo) (as:=lo) (R:=fun _ _ v=>∃ z:Str,v=.str z) (OffD.ofT fun _ _ _ _ _ h=>h) (fitsL (by omega)) llv.symm (SqL.of hLw6) hC2 (fun jj x m2 J hx hm2 sJ _ Q' kq=>?_) (fun zs J sJ hCJ hzs=>?_)
    · unfold lowV at hx
      rw[List.getElem?_map,hm2] at hx
      cases hx
      have hlt:=hlo m2 (List.mem_of_getElem? hm2)
      obtain⟨u2,hu2⟩:=some_of_lt (xs:=sus++[V.ref c3]) (i:=m2) (by omega)
      obtain⟨pu,nu,ru,rfl,hpu⟩:=nS6 u2 (List.mem_of_getElem? hu2)
      exact⟨_,rfl,_,rfl,SS,_,_,.ref pu,rfl,rfl,SqL.of (sJ _ _ hS6'),atI_nat hu2,pu,_,0,.str nu,rfl,rfl,SqT.of (sJ _ _ hpu),atI_head _ _,kq _ _ (Same.refl _) ⟨nu,rfl⟩⟩
    refine⟨C2,_,rfl,.inl ⟨SqL.of hCJ,fun d1 hd1=>?_⟩⟩
    have r1:=same_new hd1 (.tup zs)
    refine⟨(by show 0 <= sizeLine;decide),fun d2 hd2=>⟨(by show 4 <= sizeLine;decide),fun d3 hd3=>?_⟩⟩
    have r2:=same_new hd2 (.tup [])
    have r3:=same_new hd3 (.tup [.str (wrd (wh / 3) (0+(i:Int))),.str (wrd wh (0+(i:Int))),.ref d1,.ref d2])
    have rA:=sJ.trans (r1.trans (r2.trans r3))
    have hd3':=upd_same (H:=upd (upd J d1 (.tup zs)) d2 (.tup [])) (a:=d3) (o:=.tup [.str (wrd (wh / 3) (0+(i:Int))),.str (wrd wh (0+(i:Int))),.ref d1,.ref d2])
    have hF7':=rA _ _ hF6
    refine⟨FF,fus,_,rfl,rfl,hF7',fitsL (by omega),?_⟩
    have sm7:=sm6.trans rA
    have kp7:=kp6.same rA
    have hS7:=rA _ _ hS6'
    have hR7:=rA _ _ hR6
    have hLw7:=rA _ _ hLw6
    have hc7:=rA _ _ hc6
    have T7:=sameT rA
    generalize upd (upd (upd J d1 (.tup zs)) d2 (.tup [])) d3 (.tup [.str (wrd (wh / 3) (0+(i:Int))),.str (wrd wh (0+(i:Int))),.ref d1,.ref d2])=H7 at hd3' hF7' sm7 kp7 hS7 hR7 hLw7 hc7 T7 ⊢
    have TL2:SameT H7 (upd H7 FF (.lst (fus++[.ref d3]))):=sameT_lst hF7'
    have T8:=T7.trans TL2
    have hF8:=upd_same (H:=H7) (a:=FF) (o:=.lst (fus++[.ref d3]))
    have sm8:Same H (upd H7 FF (.lst (fus++[.ref d3]))):=same_upd fF sm7
    have kp8:Kp [SS,FF,RR] B3 (upd H7 FF (.lst (fus++[.ref d3]))):=kp7.upd (by simp)
    have hS8:upd H7 FF (.lst (fus++[.ref d3])) SS=some (.lst (sus++[.ref c3])):=by rw[upd_ne nSF.symm];exact hS7
    have hR8:upd H7 FF (.lst (fus++[.ref d3])) RR=some (.lst rus):=by rw[upd_ne nRF];exact hR7
    have hLw8:upd H7 FF (.lst (fus++[.ref d3])) Lw=some (.lst (lowV lo)):=by rw[upd_ne (fun z=>nL (by simp[z]))];exact hLw7
    have hc8:=TL2 _ _ hc7
    have hd8:=TL2 _ _ hd3'
    generalize upd H7 FF (.lst (fus++[.ref d3]))=H8 at T8 hF8 sm8 kp8 hS8 hR8 hLw8 hc8 hd8 ⊢
    have hdi:(fus++[V.ref d3])[i]?=some (.ref d3):=by rw[List.getElem?_append_right (by omega),lF,Nat.sub_self];rfl
    refine⟨_,rfl,.inl ⟨rfl,_,SqL.of hR8⟩,_,rfl,_,rfl,SS,_,_,.ref c3,rfl,rfl,SqL.of hS8,by rw[e0];exact atI_nat hci,c3,_,0,.str _,rfl,rfl,SqT.of hc8,rfl,(by show 0 <= sizeLine;decide),fun e1 he1=>?_⟩
    have v1:=same_new he1 (.tup [])
    refine⟨_,rfl,_,rfl,FF,_,_,.ref d3,rfl,rfl,SqL.of (v1 _ _ hF8),by rw[e0];exact atI_nat hdi,d3,_,0,.str _,rfl,rfl,SqT.of (v1 _ _ hd8),rfl,_,rfl,Lw,_,rfl,.inl ⟨SqL.of (v1 _ _ hLw8),fun e2 he2=>⟨(by show 4 <= sizeLine;decide),fun e3 he3=>?_⟩⟩⟩
    have v2:=same_new he2 (.tup (lowV lo))
    have v3:=same_new he3 (.tup [.str (wrd wh (0+(i:Int))),.ref e1,.str (wrd (wh / 3) (0+(i:Int))),.ref e2])
    have vA:=v1.trans (v2.trans v3)
    have hR9':=vA _ _ hR8
    have lrus:=hrs.len
    refine⟨RR,rus,_,rfl,rfl,hR9',fitsL (by omega),?_⟩
    have f1:=(v2.trans v3) _ _ (upd_same (H:=H8) (a:=e1) (o:=.tup []))
    have f2:=v3 _ _ (upd_same (H:=upd H8 e1 (.tup [])) (a:=e2) (o:=.tup (lowV lo)))
    have f3:=upd_same (H:=upd (upd H8 e1 (.tup [])) e2 (.tup (lowV lo))) (a:=e3) (o:=.tup [.str (wrd wh (0+(i:Int))),.ref e1,.str (wrd (wh / 3) (0+(i:Int))),.ref e2])
    have sm9:=sm8.trans vA
    have kp9:=kp8.same vA
    have hS9:=vA _ _ hS8
    have hF9:=vA _ _ hF8
    have hd9:=vA _ _ hd8
    have T9:=T8.trans (sameT vA)
    generalize upd (upd (upd H8 e1 (.tup [])) e2 (.tup (lowV lo))) e3 (.tup [.str (wrd wh (0+(i:Int))),.ref e1,.str (wrd (wh / 3) (0+(i:Int))),.ref e2])=H9 at hR9' f1 f2 f3 sm9 kp9 hS9 hF9 hd9 T9 ⊢
    have TL3:SameT H9 (upd H9 RR (.lst (rus++[.ref e3]))):=sameT_lst hR9'
    have TX:=T9.trans TL3
    refine⟨sus++[.ref c3],fus++[.ref d3],rus++[.ref e3],rs++[⟨wrd wh (0+(i:Int)),[],wrd (wh / 3) (0+(i:Int)),lo⟩],_,_,_,rfl,same_upd fR sm9,kp9.upd (by simp),by rw[upd_ne nRS.symm];exact hS9,lS6,fun v hv=>(nS6 v hv).same TX,by rw[upd_ne nRF.symm];exact hF9,by rw[List.length_append,lF];rfl,fun v hv=>?_,upd_same,(hrs6.imp fun _ _ h=>RwIs.sameT TX h).snoc ⟨e3,e1,[],e2,rfl,TL3 _ _ f3,TL3 _ _ f1,.nil,TL3 _ _ f2⟩,by rw[List.length_append,lR];rfl,ok.snoc (by omega) llo fun n hn=>by rw[lR];exact hlo n hn⟩
    rcases List.mem_append.mp hv with h | h
    · exact (nF6 v h).same TX
    · rw[List.mem_singleton.mp h];exact⟨d3,_,_,rfl,TL3 _ _ hd9⟩
  · rintro σ H' ⟨sus,fus,rus,rs,x8,x9,x10,rfl,sm,kp,hS,lS,nS,hF,lF,nF,hR,hrs,lR,ok⟩
    refine⟨_,rfl,SS,_,rfl,.inl ⟨SqL.of hS,fun t1 ht1=>?_⟩⟩
    have u1:=same_new ht1 (.tup sus)
    refine⟨_,rfl,FF,_,rfl,.inl ⟨SqL.of (u1 _ _ hF),fun t2 ht2=>⟨(by show 2 <= sizeLine;decide),fun t3 ht3=>?_⟩⟩⟩
    have u2:=same_new ht2 (.tup fus)
    have u3:=same_new ht3 (.tup [.ref t1,.ref t2])
    refine⟨_,rfl,(by show 2 <= sizeLine;decide),fun t4 ht4=>?_⟩
    have u4:=same_new ht4 (.lst [.ref t3,.ref RR])
    have uA:=u1.trans (u2.trans (u3.trans u4))
    exact q t4 RR _ rus rs _ (sm.trans uA) upd_same (uA _ _ hR) (hrs.imp fun _ _ h=>RwIs.same uA h) ok (by omega)
end
end K35
namespace K35
open PySem L2 TR SP
open TM
theorem L2R.setV {α:Type} {R:α->V->Prop}:∀ {as:List α} {vs:List V} {i:Nat} {a:α} {v:V},L2R R as vs->R a v->L2R R (as.set i a) (vs.set i v)
  | _,_,_,_,_,.nil,_=>.nil
  | _,_,0,_,_,.cons h1 h2,h=>.cons h h2
  | _,_,i+1,_,_,.cons h1 h2,h=>.cons h1 (L2R.setV h2 h)
def TuIs (H:Hp) (t:Int × List Str) (v:V):Prop:=∃ p l,v=.ref p/\H p=some (.tup [.int t.1,.ref l])/\H l=some (.lst (t.2.map V.str))
theorem TuIs.same {H H':Hp} (s:Same H H') {t:Int × List Str} {v:V} (h:TuIs H t v):TuIs H' t v:=let ⟨p,l,e,h1,h2⟩:=h;⟨p,l,e,s _ _ h1,s _ _ h2⟩
def NP (Nm:Str->Prop) (p:Pr):Prop:=(p.1=0\/p.1=1)/\Nm p.2
def RuP (Nm:Str->Prop) (d0:Nat) (c0:Int) (r:Ru):Prop:=NP Nm (r.k,r.nm)/\(∀ p ∈ named r.tm,NP Nm p)/\depth r.tm <= d0/\parts r.tm <= c0
theorem RuP.mono {Nm:Str->Prop} {d0 d1:Nat} {c0 c1:Int} {r:Ru} (h:RuP Nm d0 c0 r) (hd:d0 <= d1) (hc:c0 <= c1):RuP Nm d1 c1 r:=⟨h.1,h.2.1,Nat.le_trans h.2.2.1 hd,Int.le_trans h.2.2.2 hc⟩
theorem RuP.of {Nm:Str->Prop} {S:List Pr} {k:Int} {n:Str} {t:Tm} {d d0:Nat} {c c0:Int} (h:NP Nm (k,n)) (tb:TB S d c t) (hs:∀ p ∈ S,NP Nm p) (hd:d <= d0) (hc:c <= c0):RuP Nm d0 c0 ⟨k,n,t⟩:=by
  obtain⟨a,b,e⟩:=tb
  exact⟨h,fun p hp=>hs p (e p hp),Nat.le_trans a hd,Int.le_trans b hc⟩
def TuG (Nm:Str->Prop) (t:Int × List Str):Prop:=(t.1=0\/t.1=1)/\1 <= t.2.length/\t.2.length <= 2/\∀ n ∈ t.2,Nm n
def spStep:Sp:=fun vs H Q _=>∃ (wh a:Int) (hd:Str) (br tl:Addr) (brs:List Str) (tvs:List V) (ts:List (Int × List Str)) (ad:Bool) (Nm:Str->Prop),vs=[.int wh,.int a,.str hd,.ref br,.ref tl,.bl ad]/\H br=some (.tup (brs.map V.str))/\H tl=some (.lst tvs)/\L2R (TuIs H) ts tvs/\1 <= ts.length/\ts.length <= 4/\(∀ t ∈ ts,TuG Nm t)/\(ad=true->3 <= ts.length) /\
  ∀ (v:V) (f:Fm) (H':Hp),Same H H'->FmIs H' f v->f.hd=hd->f.br=brs->f.ru.length <= 4->(∀ r ∈ f.ru,RuP Nm 3 5 r)->Q v H'
section
variable {P:Program} {w:World} {K:PySem.W.Frag} {mg:Str->Option Value} {base:Heap} {T:Adr}
theorem ok_step (X:Tx K mg T):FnOk P w K mg base CX0 2 T.qstep T.d_qstep ["_law_word_here", "_law_at", "_law_head", "_law_branch", "_law_turns", "_law_adds"] spStep:=by
  have G_qword:=ok_word (P:=P) (w:=w) (base:=base) X
  refine X.F_qstep.okQ sc_qstep (fun vs H Q E h=>?_) (fun cdv A outer s H vs Q E hr h=>?_)
  · obtain⟨_,_,_,_,_,_,_,_,_,_,rfl,_⟩:=h
    rfl
  obtain⟨wh,a,hd,br,tl,brs,tvs,ts,ad,Nm,rfl,hbr,htl,hts,l1,l4,gts,had,q⟩:=h
  refine⟨_,(qss_cons (qs_set (i:=6) sc_qstep.nd rfl (Or.inl rfl) (qe_lst qa_nil)) (qss_cons (qs_for PassesOwn.never rfl (qi_list (qv 4)) (qg_tup rfl (qgs_cons (qg_name (i:=7) sc_qstep.nd rfl (Or.inl rfl)) (qgs_cons (qg_name (i:=8) sc_qstep.nd rfl (Or.inl rfl)) qgs_nil))) (qss_cons (qs_expr (qe_bm PySem.F.plainAttrs_list PySem.F.slot_list_append PySem.F.type_list_append mt_append (qv 6) (qaT (qe_tup (qaN (qv 7) (qaS (qe_ix ix_list (qv 8) qe_int (fun _ _=>rfl)) (qaT (qe_tup (qaC qe_str (qaC qe_int qa_nil))) qa_nil)))) qa_nil))) (qss_one (qs_if (qt_cmpR op_eq (qe_callB call_len_seq rfl X.z_len PySem.boot_len (qaN (qv 8) qa_nil)) qe_int (nomark _)) (qss_one (qs_asg (qe_tup (qaN (qv 7) (qaS (qe_ix ix_list (qv 8) qe_int (fun _ _=>rfl)) (qaT (qe_tup (qaC qe_str (qaB (qe_op op_sub qe_int (qv 7)) (qaS (qe_ix ix_list (qv 8) qe_int (fun _ _=>rfl)) qa_nil)))) qa_nil)))) (qg_sub (qv 6) (qe_un un_neg qe_int) set_list))) qss_nil)))) (qss_cons (qs_if (qt_val (qv 5)) (qss_one (qs_asg (qe_tup (qaC qe_int (qaS (qe_ix ix_list (qe_ix ix_tup (qe_ix ix_list (qv 4) qe_int (fun _ _=>rfl)) qe_int (fun _ _=>rfl)) qe_int (fun _ _=>rfl)) (qaT (qe_tup (qaC qe_str (qaC qe_str (qaT (qe_tup (qaS (qe_ix ix_tup (qe_ix ix_list (qv 6) qe_int (fun _ _=>rfl)) qe_int (fun _ _=>rfl)) (qaT (qe_tup (qaC qe_str (qaC qe_int (qaS (qe_ix ix_list (qe_ix ix_tup (qe_ix ix_list (qv 4) qe_int (fun _ _=>rfl)) qe_int (fun _ _=>rfl)) qe_int (fun _ _=>rfl)) qa_nil)))) qa_nil))) qa_nil)))) qa_nil)))) (qg_sub (qv 6) qe_int set_list))) qss_nil) (qss_one (qs_ret (qe_tup (qaK (qe_call G_qword hr rfl X.m_qword X.F_qword.kp X.b_qword .nil pass0 (qaN (qv 0) (qaN (qv 1) qa_nil))) (qaN (qv 2) (qaN (qv 3) (qaK (qe_callTy call_tuple_of rfl X.z_tuple PyProof.Rows.boot_tuple (qaN (qv 6) qa_nil)) qa_nil)))))))))),?_⟩
  dsimp only[cxOf]
  have ltv:=hts.len
  refine⟨(by show 0 <= sizeLine;decide),fun R hR=>?_⟩
  have s0:=same_new hR (.lst [])
  refine⟨_,rfl,tl,rfl,⟨_,SqL.of (s0 _ _ htl)⟩,?_⟩
  refine for_list (K:=K) (a:=tl) (xs:=tvs) (fun i σ H'=>∃ (ru:List Ru) (rus:List V) (x7 x8:Option V),σ=[some (.int wh),some (.int a),some (.str hd),some (.ref br),some (.ref tl),some (.bl ad),some (.ref R),x7,x8]/\Same H H'/\H' R=some (.lst rus)/\L2R (RuIs H') ru rus/\ru.length=i/\∀ r ∈ ru,RuP Nm 1 1 r)
    ⟨[],[],none,none,rfl,s0,upd_same,.nil,rfl,(fun r h=>nomatch h)⟩ (fun i σ H' _ ⟨_,_,_,_,_,sm,_⟩=>SqL.of (sm _ _ htl)) ?_ ?_
  · rintro i v σ H' hv ⟨ru,rus,x7,x8,rfl,sm,hR',hru,lru,gru⟩
    obtain⟨t,ht,p,l,rfl,hp,hl⟩:=hts.get hv
    obtain⟨t0,t1,t2,t3⟩:=gts t (List.mem_of_getElem? ht)
    have hi:=lt_of_some ht
    have lrus:=hru.len
    obtain⟨n0,hn0⟩:=some_of_lt (xs:=t.2) (i:=0) (by omega)
    have nm0:=t3 n0 (List.mem_of_getElem? hn0)
    have at0:atI (t.2.map V.str) 0=some (.str n0):=atI_nat (j:=0) (by rw[List.getElem?_map,hn0];rfl)
    refine⟨p,_,rfl,SqT.of (sm _ _ hp),rfl,_,_,rfl,_,_,rfl,rfl,?_⟩
    refine⟨_,rfl,.inl ⟨rfl,_,SqL.of hR'⟩,_,rfl,_,rfl,l,_,0,.str n0,rfl,rfl,SqL.of (sm _ _ hl),at0,(by show 2 <= sizeLine;decide),fun b1 hb1=>⟨(by show 3 <= sizeLine;decide),fun b2 hb2=>?_⟩⟩
    have j1:=same_new hb1 (.tup [.str "num",.int 7])
    have j2:=same_new hb2 (.tup [.int t.1,.str n0,.ref b1])
    have jA:=j1.trans j2
    have hR2:=jA _ _ hR'
    refine⟨R,rus,_,rfl,rfl,hR2,fitsL (by omega),?_⟩
    have tn:=TmIs.same (sameT j2) _ (tm_num (upd_same (H:=H') (a:=b1) (o:=.tup [.str "num",.int 7])))
    have hb2':=upd_same (H:=upd H' b1 (.tup [.str "num",.int 7])) (a:=b2) (o:=.tup [.int t.1,.str n0,.ref b1])
    have sm2:=sm.trans jA
    have hru2:L2R (RuIs (upd (upd H' b1 (.tup [.str "num",.int 7])) b2 (.tup [.int t.1,.str n0,.ref b1]))) ru rus:=hru.imp fun _ _ h=>RuIs.same (sameT jA) h
    generalize upd (upd H' b1 (.tup [.str "num",.int 7])) b2 (.tup [.int t.1,.str n0,.ref b1])=H2 at hR2 tn hb2' sm2 hru2 ⊢
    have TL:SameT H2 (upd H2 R (.lst (rus++[.ref b2]))):=sameT_lst hR2
    have sm3:Same H (upd H2 R (.lst (rus++[.ref b2]))):=same_upd hR sm2
    have hR3:=upd_same (H:=H2) (a:=R) (o:=.lst (rus++[.ref b2]))
    have hru3:L2R (RuIs (upd H2 R (.lst (rus++[.ref b2])))) ru rus:=hru2.imp fun _ _ h=>RuIs.same TL h
    have hr3:RuIs (upd H2 R (.lst (rus++[.ref b2]))) ⟨t.1,n0,.num 7⟩ (.ref b2):=⟨b2,.ref b1,rfl,TL _ _ hb2',TmIs.same TL _ tn⟩
    generalize upd H2 R (.lst (rus++[.ref b2]))=H3 at sm3 hR3 hru3 hr3 ⊢
    refine⟨_,rfl,l,_,rfl,.inl (SqL.of (sm3 _ _ hl)),rfl,_,rfl,iteDd (fun h2=>?_) (fun h2=>?_)⟩
    · have t22:t.2.length=2:=by
        have:=h2
        rw[List.length_map] at this
        have:=V.int.inj this
        omega
      obtain⟨n1,hn1⟩:=some_of_lt (xs:=t.2) (i:=1) (by omega)
      have nm1:=t3 n1 (List.mem_of_getElem? hn1)
      have at1:atI (t.2.map V.str) 1=some (.str n1):=atI_nat (j:=1) (by rw[List.getElem?_map,hn1];rfl)
      refine⟨_,rfl,_,rfl,l,_,0,.str n0,rfl,rfl,SqL.of (sm3 _ _ hl),at0,_,rfl,_,_,rfl,rfl,_,rfl,l,_,1,.str n1,rfl,rfl,SqL.of (sm3 _ _ hl),at1,(by show 3 <= sizeLine;decide),fun b3 hb3=>⟨(by show 3 <= sizeLine;decide),fun b4 hb4=>?_⟩⟩
      have j3:=same_new hb3 (.tup [.str "of",.int (1 - t.1),.str n1])
      have j4:=same_new hb4 (.tup [.int t.1,.str n0,.ref b3])
      have jB:=j3.trans j4
      have hR4:=jB _ _ hR3
      have tv:=TmIs.same (sameT j4) _ (tm_val (upd_same (H:=H3) (a:=b3) (o:=.tup [.str "of",.int (1 - t.1),.str n1])))
      have hb4':=upd_same (H:=upd H3 b3 (.tup [.str "of",.int (1 - t.1),.str n1])) (a:=b4) (o:=.tup [.int t.1,.str n0,.ref b3])
      have sm4:=sm3.trans jB
      have hru4:L2R (RuIs (upd (upd H3 b3 (.tup [.str "of",.int (1 - t.1),.str n1])) b4 (.tup [.int t.1,.str n0,.ref b3]))) ru rus:=hru3.imp fun _ _ h=>RuIs.same (sameT jB) h
      have lap:(rus++[V.ref b2]).length=rus.length+1:=by rw[List.length_append];rfl
      refine⟨_,rfl,1,rfl,R,_,-1,rus.length,rfl,rfl,hR4,by rw[lap];unfold ixN;simp;omega,?_⟩
      have es:(rus++[V.ref b2]).set rus.length (.ref b4)=rus++[.ref b4]:=by rw[List.set_append_right _ _ (Nat.le_refl _),Nat.sub_self];rfl
      rw[es]
      generalize upd (upd H3 b3 (.tup [.str "of",.int (1 - t.1),.str n1])) b4 (.tup [.int t.1,.str n0,.ref b3])=H4 at hR4 tv hb4' sm4 hru4 ⊢
      have TL4:SameT H4 (upd H4 R (.lst (rus++[.ref b4]))):=sameT_lst hR4
      refine⟨ru++[⟨t.1,n0,.val (1 - t.1) n1⟩],rus++[.ref b4],_,_,rfl,same_upd hR sm4,upd_same,(hru4.imp fun _ _ h=>RuIs.same TL4 h).snoc ⟨b4,.ref b3,rfl,TL4 _ _ hb4',TmIs.same TL4 _ tv⟩,by rw[List.length_append,lru];rfl,fun r hr=>?_⟩
      rcases List.mem_append.mp hr with h | h
      · exact gru r h
      · rw[List.mem_singleton.mp h]
        exact RuP.of (S:=[(1 - t.1,n1)]) ⟨t0,nm0⟩ (TB.val (List.mem_singleton.mpr rfl)) (fun p hp=>by rw[List.mem_singleton.mp hp];exact⟨by show 1 - t.1=0\/1 - t.1=1;omega,nm1⟩) (by decide) (by decide)
    · refine⟨ru++[⟨t.1,n0,.num 7⟩],_,_,_,rfl,sm3,hR3,hru3.snoc hr3,by rw[List.length_append,lru];rfl,fun r hr=>?_⟩
      rcases List.mem_append.mp hr with h | h
      · exact gru r h
      · rw[List.mem_singleton.mp h]
        exact RuP.of (S:=[]) ⟨t0,nm0⟩ TB.num (fun p hp=>nomatch hp) (by decide) (by decide)
  · rintro σ H' ⟨ru,rus,x7,x8,rfl,sm,hR',hru,lru,gru⟩
    have lrus:=hru.len
    dsimp only
    refine seq_join (fun σ' J=>∃ (ru':List Ru) (rus':List V) (x7 x8:Option V),σ'=[some (.int wh),some (.int a),some (.str hd),some (.ref br),some (.ref tl),some (.bl ad),some (.ref R),x7,x8]/\Same H J/\J R=some (.lst rus')/\L2R (RuIs J) ru' rus'/\ru'.length <= 4/\∀ r ∈ ru',RuP Nm 3 5 r) ?_ (fun F hF=>?_)
    · rintro σ J ⟨ru',rus',y7,y8,rfl,smJ,hRJ,hruJ,l4',gru'⟩
      refine⟨_,rfl,_,rfl,wh,a,rfl,_,rfl,_,rfl,_,rfl,R,_,rfl,.inl ⟨SqL.of hRJ,fun t1 ht1=>⟨(by show 4 <= sizeLine;decide),fun t2 ht2=>?_⟩⟩⟩
      have r1:=same_new ht1 (.tup rus')
      have r2:=same_new ht2 (.tup [.str (wrd wh a),.str hd,.ref br,.ref t1])
      have rA:=r1.trans r2
      exact q _ ⟨wrd wh a,hd,brs,ru'⟩ _ (smJ.trans rA) ⟨t2,br,t1,rus',rfl,upd_same,(smJ.trans rA) _ _ hbr,r2 _ _ upd_same,hruJ.imp fun _ _ h=>RuIs.same (sameT rA) h⟩ rfl rfl l4' gru'
    · have base:F [some (.int wh),some (.int a),some (.str hd),some (.ref br),some (.ref tl),some (.bl ad),some (.ref R),x7,x8] H':=hF _ _ ⟨ru,rus,_,_,rfl,sm,hR',hru,by omega,fun r hr=>(gru r hr).mono (by decide) (by decide)⟩
      refine⟨_,rfl,_,rfl,?_⟩
      cases hadv:ad with
      | false=>
        subst hadv
        exact iteF base
      | true=>
        have l3:=had hadv
        subst hadv
        refine iteT ?_
        obtain⟨v0,hv0⟩:=some_of_lt (xs:=tvs) (i:=0) (by omega)
        obtain⟨ta,hta,pa,la,rfl,hpa,hla⟩:=hts.get hv0
        obtain⟨v2,hv2⟩:=some_of_lt (xs:=tvs) (i:=2) (by omega)
        obtain⟨tc,htc,pc,lc,rfl,hpc,hlc⟩:=hts.get hv2
        obtain⟨_,ta1,_,ta3⟩:=gts ta (List.mem_of_getElem? hta)
        obtain⟨_,tc1,_,tc3⟩:=gts tc (List.mem_of_getElem? htc)
        obtain⟨na,hna⟩:=some_of_lt (xs:=ta.2) (i:=0) (by omega)
        obtain⟨nc,hnc⟩:=some_of_lt (xs:=tc.2) (i:=0) (by omega)
        have ata:atI (ta.2.map V.str) 0=some (.str na):=atI_nat (j:=0) (by rw[List.getElem?_map,hna];rfl)
        have atc:atI (tc.2.map V.str) 0=some (.str nc):=atI_nat (j:=0) (by rw[List.getElem?_map,hnc];rfl)
        obtain⟨vr,hvr⟩:=some_of_lt (xs:=rus) (i:=0) (by omega)
        obtain⟨r0,hr0,pr,u0,rfl,hpr,hu0⟩:=hru.get hvr
        obtain⟨_,g2,g3,g4⟩:=gru r0 (List.mem_of_getElem? hr0)
        refine⟨_,rfl,tl,_,0,.ref pa,rfl,rfl,SqL.of (sm _ _ htl),atI_nat (j:=0) hv0,pa,_,1,.ref la,rfl,rfl,SqT.of (sm _ _ hpa),rfl,la,_,0,.str na,rfl,rfl,SqL.of (sm _ _ hla),ata,_,rfl,R,_,0,.ref pr,rfl,rfl,SqL.of hR',atI_nat (j:=0) hvr,pr,_,2,u0,rfl,rfl,SqT.of hpr,rfl,_,rfl,tl,_,2,.ref pc,rfl,rfl,SqL.of (sm _ _ htl),atI_nat (j:=2) hv2,pc,_,1,.ref lc,rfl,rfl,SqT.of (sm _ _ hpc),rfl,lc,_,0,.str nc,rfl,rfl,SqL.of (sm _ _ hlc),atc,(by show 3 <= sizeLine;decide),fun b1 hb1=>⟨(by show 2 <= sizeLine;decide),fun b2 hb2=>⟨(by show 3 <= sizeLine;decide),fun b3 hb3=>⟨(by show 3 <= sizeLine;decide),fun b4 hb4=>?_⟩⟩⟩⟩
        have k1:=same_new hb1 (.tup [.str "of",.int 0,.str nc])
        have k2:=same_new hb2 (.tup [u0,.ref b1])
        have k3:=same_new hb3 (.tup [.str "call",.str "add",.ref b2])
        have k4:=same_new hb4 (.tup [.int 0,.str na,.ref b3])
        have kA:=k1.trans (k2.trans (k3.trans k4))
        have hR4:=kA _ _ hR'
        have tcall:TmIs (upd (upd (upd (upd H' b1 (.tup [.str "of",.int 0,.str nc])) b2 (.tup [u0,.ref b1])) b3 (.tup [.str "call",.str "add",.ref b2])) b4 (.tup [.int 0,.str na,.ref b3])) (.call "add" [r0.tm,.val 0 nc]) (.ref b3):=tm_call (k4 _ _ upd_same) ((k3.trans k4) _ _ upd_same) (by show 2 <= 1000;decide) (tms2 (TmIs.same (sameT kA) _ hu0) (TmIs.same (sameT (k2.trans (k3.trans k4))) _ (tm_val upd_same)))
        have hb4':=upd_same (H:=upd (upd (upd H' b1 (.tup [.str "of",.int 0,.str nc])) b2 (.tup [u0,.ref b1])) b3 (.tup [.str "call",.str "add",.ref b2])) (a:=b4) (o:=.tup [.int 0,.str na,.ref b3])
        have hru4:L2R (RuIs (upd (upd (upd (upd H' b1 (.tup [.str "of",.int 0,.str nc])) b2 (.tup [u0,.ref b1])) b3 (.tup [.str "call",.str "add",.ref b2])) b4 (.tup [.int 0,.str na,.ref b3]))) ru rus:=hru.imp fun _ _ h=>RuIs.same (sameT kA) h
        refine⟨_,rfl,R,rus,0,0,rfl,rfl,hR4,by unfold ixN;rw[if_pos (by decide),if_pos (by omega)];rfl,?_⟩
        have sm4:=sm.trans kA
        generalize upd (upd (upd (upd H' b1 (.tup [.str "of",.int 0,.str nc])) b2 (.tup [u0,.ref b1])) b3 (.tup [.str "call",.str "add",.ref b2])) b4 (.tup [.int 0,.str na,.ref b3])=H4 at hR4 tcall hb4' hru4 sm4 ⊢
        have TL4:SameT H4 (upd H4 R (.lst (rus.set 0 (.ref b4)))):=sameT_lst hR4
        refine hF _ _ ⟨ru.set 0 ⟨0,na,.call "add" [r0.tm,.val 0 nc]⟩,rus.set 0 (.ref b4),_,_,rfl,same_upd hR sm4,upd_same,L2R.setV (hru4.imp fun _ _ h=>RuIs.same TL4 h) ⟨b4,.ref b3,rfl,TL4 _ _ hb4',TmIs.same TL4 _ tcall⟩,by rw[List.length_set];omega,fun r hr=>?_⟩
        rcases List.mem_or_eq_of_mem_set hr with h | h
        · exact (gru r h).mono (by decide) (by decide)
        · rw[h]
          have tb1:TB (named r0.tm++[(0,nc)]) 1 1 r0.tm:=⟨g3,g4,fun p hp=>List.mem_append_left _ hp⟩
          refine RuP.of (S:=named r0.tm++[(0,nc)]) ⟨.inl rfl,ta3 na (List.mem_of_getElem? hna)⟩ (tb1.call2 (TB.val (List.mem_append_right _ (List.mem_singleton.mpr rfl)))) (fun p hp=>?_) (by decide) (by decide)
          rcases List.mem_append.mp hp with h | h
          · exact g2 p h
          · rw[List.mem_singleton.mp h];exact⟨.inl rfl,tc3 nc (List.mem_of_getElem? hnc)⟩
end
end K35
namespace K35
open PySem L2 TR SP
open TM
theorem nm_at {ss:List Sg} {f:Fm} (g:FmG ss f) {i:Nat} {s:Sg} (h:ss[i]?=some s):(f.hd::f.br)[i]?=some s.nm:=by
  obtain⟨s0,h0,e0⟩:=g.hd
  cases i with
  | zero=>
    rw[h] at h0
    cases h0
    rw[List.getElem?_cons_zero,e0]
  | succ i=>
    rw[List.getElem?_cons_succ,g.br,List.getElem?_map,List.getElem?_drop,Nat.add_comm 1 i,h]
    rfl
theorem at_mem {sg ss:List Sg} {at_:List Nat} (ats:AtS sg at_ ss) {i:Nat} {s:Sg} (h:ss[i]?=some s):s ∈ sg:=by
  obtain⟨n,hn⟩:=some_of_lt (xs:=at_) (i:=i) (by have:=lt_of_some h;have:=ats.l;omega)
  obtain⟨s',h1,h2⟩:=ats.e i n hn
  rw[h] at h2
  cases h2
  exact List.mem_of_getElem? h1
theorem va_of {sg ss:List Sg} {at_:List Nat} {f:Fm} (ats:AtS sg at_ ss) (g:FmG ss f) {e:Vl} (he:e ∈ vlF 0 ss):Va sg f (keyV e):=by
  obtain⟨i,b,s,h1,h2,h3,h4,h5⟩:=vl_mem ss 0 e he
  refine⟨i,s.nm,s,(e.2.1,e.2.2.2),nm_at g h1,at_mem ats h1,rfl,by show e.1=(i:Int);rw[h3];omega,?_,rfl⟩
  split at h5
  · exact List.mem_append_left _ h5
  · exact List.mem_append_right _ h5
theorem fmP_of {sg ss:List Sg} {at_:List Nat} {f:Fm} (ats:AtS sg at_ ss) (g:FmG ss f) (gs:∀ s ∈ sg,SgG s) (l6:sg.length <= 6) (l4:ss.length <= 4):FmP sg f where
  g:=gs
  l3:=l6
  b3:=by rw[g.br,List.length_map,List.length_drop];omega
  ru:=fun r hr=>by
    obtain⟨one,h1,_,h3,h4,S,h5,tb⟩:=g.ru r hr
    refine⟨by rw[h3,h4];exact va_of ats g h1,fun p hp=>?_,tb.dp,tb.pt⟩
    obtain⟨e,he,rfl⟩:=List.mem_map.mp (tb.nm p hp)
    exact va_of ats g (h5 e he).1
  r8:=g.l
  hd:=let ⟨s,h,e⟩:=g.hd;⟨s,at_mem ats h,e.symm⟩
theorem leaf_of {ss:List Sg} {f:Fm} (g:FmG ss f) (gs:∀ s ∈ ss,SgG s) (l1:ss.length=1):Leaf f:=by
  intro r hr p hp r' hr' e
  obtain⟨one,h1,hdue,h3,h4,S,h5,tb⟩:=g.ru r hr
  obtain⟨one',h1',hdue',h3',h4',_⟩:=g.ru r' hr'
  obtain⟨ee,hee,rfl⟩:=List.mem_map.mp (tb.nm p hp)
  obtain⟨hin,pl⟩:=h5 ee hee
  obtain⟨i,b,s,a1,a2,a3,a4,a5⟩:=vl_mem ss 0 one h1
  obtain⟨i2,b2,s2,c1,c2,c3,c4,c5⟩:=vl_mem ss 0 one' h1'
  obtain⟨i3,b3,s3,d1,d2,d3,d4,d5⟩:=vl_mem ss 0 ee hin
  have z1:=lt_of_some a1
  have z2:=lt_of_some c1
  have z3:=lt_of_some d1
  have i0:i=0:=by omega
  have i20:i2=0:=by omega
  have i30:i3=0:=by omega
  subst i0 i20 i30
  rw[c1] at d1
  cases d1
  have due1:∀ {x:Vl},x.1=((0+0:Nat):Int)->dueB x=true->x.2.2.1=1:=fun {x} h hd=>by
    unfold dueB at hd
    rw[h] at hd
    simpa using hd
  have e1:=due1 a3 hdue
  have e2:=due1 c3 hdue'
  have pk:=pl (by rw[a3];rfl) e1 (by rw[d3];rfl)
  have b30:b3=0:=by
    rw[d4] at pk
    omega
  have b21:b2=1:=by
    rw[c4] at e2
    omega
  subst b30 b21
  have gs2:=gs s2 (List.mem_of_getElem? c1)
  refine gs2.nd _ (by simpa using d5) _ (by simpa using c5) ?_
  have:=congrArg Prod.snd e
  show ee.2.1=one'.2.1
  rw[<- h4']
  exact this
theorem fit_of {sg:List Sg} {f:Fm} {k:Nat} {nm:Str} {rc:List (Str × Str)} (hk:f.br[k]?=some nm) (h:RcG sg nm rc):rc.length <= 4/\∀ q ∈ rc,Va sg f ((k+1:Nat),q.1)/\Va sg f ((k+1:Nat),q.2):=by
  refine⟨h.1,fun q hq=>?_⟩
  obtain⟨s,hs,e,⟨a,ha,e1⟩,b,hb,e2⟩:=h.2 q hq
  have hn:(f.hd::f.br)[k+1]?=some nm:=by rw[List.getElem?_cons_succ];exact hk
  exact⟨⟨k+1,nm,s,a,hn,hs,e,rfl,List.mem_append_left _ ha,e1⟩,⟨k+1,nm,s,b,hn,hs,e,rfl,List.mem_append_right _ hb,e2⟩⟩
def RowsG (sg:List Sg) (rs:List Rw):Prop:=∀ r ∈ rs,RcG sg r.sg r.rc
theorem RowsG.snoc {sg:List Sg} {rs:List Rw} {r:Rw} (h:RowsG sg rs) (g:RcG sg r.sg r.rc):RowsG sg (rs++[r]):=fun x hx=>by
  rcases List.mem_append.mp hx with z | z
  · exact h x z
  · rw[List.mem_singleton.mp z];exact g
theorem rcAt_of {rs:List Rw} {n:Nat} {r:Rw} (h:rs[n]?=some r):rcAt rs n=r.rc:=by
  unfold rcAt
  rw[h]
  rfl
end K35
namespace K35
open PySem L2 TR SP
open TM
theorem Same.kp {S:List Addr} {H H1 H2:Hp} (f:∀ a ∈ S,H a=none) (s:Same H H1) (k:Kp S H1 H2):Same H H2:=fun b o h=>k b o (fun z=>by rw[f b z] at h;cases h) (s b o h)
theorem Kp.new {S:List Addr} {H H':Hp} {a:Addr} {o:HO} (k:Kp S H H') (n:H a=none):Kp S H (L2.upd H' a o):=fun b u m h=>by rw[upd_ne (ne_of_none h n)];exact k b u m h
theorem take_range (i:Nat) (pr:Nat->Bool):(List.range (i+1)).filter pr=(List.range i).filter pr++[i].filter pr:=by rw[List.range_succ,List.filter_append]
theorem comp_rngF {n:Nat} {js:List Nat} {tc:TT} {te:TE} {σ:St} {Q:VK} {D:Addr} {H1:Hp} (pr:Nat->Bool) (hz:n < sizeLine) (hD:H1 D=none)
    (hc:∀ i H,i < n->Same H1 H->∀ Q':Bool->Hp->Prop,Q' (pr i) H->tc (some (.int (0+(i:Int)))::compS js σ) H Q')
    (he:∀ i H,i < n->∀ Q':VK,Q' (.int (i:Int)) H->te (some (.int (0+(i:Int)))::compS js σ) H Q')
    (hq:∀ H',Same H1 H'->H' D=some (.lst (lowV ((List.range n).filter pr)))->Q (.ref D) H'):CompW (Itr 0 n) js tc te σ Q D H1:=by
  refine⟨fun i m acc H=>m=n - i/\i <= n/\Same H1 H/\H D=some (.lst acc)/\acc=lowV ((List.range i).filter pr),⟨n,by simp,Nat.zero_le _,same_new hD _,upd_same,rfl⟩,?_⟩
  rintro i m acc H ⟨hm,hi,sm,hDi,rfl⟩
  have lf:((List.range i).filter pr).length <= i:=Nat.le_trans (List.length_filter_le _ _) (by rw[List.length_range];exact Nat.le_refl _)
  refine⟨hDi,by unfold lowV;rw[List.length_map];omega,?_⟩
  by_cases hlt:i < n
  · refine .inr ⟨hlt,fun x H' y=>?_⟩
    obtain⟨e,y⟩:=y
    subst e y
    refine hc i _ hlt sm _ ?_
    cases hp:pr i with
    | true=>
      rw[if_pos rfl]
      refine he i _ hlt _ ⟨hDi,n - (i+1),by omega,rfl,by omega,same_upd hD sm,upd_same,?_⟩
      rw[take_range,List.filter_cons_of_pos hp,List.filter_nil]
      unfold lowV
      rw[List.map_append]
      rfl
    | false=>
      rw[if_neg (by simp)]
      refine⟨n - (i+1),by omega,rfl,by omega,sm,hDi,?_⟩
      rw[take_range,List.filter_cons_of_neg (by simp[hp]),List.filter_nil,List.append_nil]
  · have e:i=n:=by omega
    subst e
    exact .inl ⟨Nat.le_refl _,hq H sm hDi⟩
def ShI (S:List Addr) (H:Hp) (at_:List Nat) (v:V):Prop:=∃ p,v=.ref p/\p ∉ S/\H p=some (.lst (atV at_))
theorem ShI.kp {S:List Addr} {H H':Hp} (k:Kp S H H') {at_:List Nat} {v:V} (h:ShI S H at_ v):ShI S H' at_ v:=let ⟨p,e,n,h⟩:=h;⟨p,e,n,k p _ n h⟩
theorem ats_of {sg:List Sg} {at_:List Nat} (h:∀ n ∈ at_,n < sg.length):∃ ss,AtS sg at_ ss:=by
  refine⟨at_.map fun n=>(sg[n]?).getD ⟨"",[],[]⟩,by rw[List.length_map],fun i n hi=>?_⟩
  obtain⟨s,hs⟩:=some_of_lt (h n (List.mem_of_getElem? hi))
  refine⟨s,hs,?_⟩
  rw[List.getElem?_map,hi]
  show some ((sg[n]?).getD _)=_
  rw[hs]
  rfl
def ShO (sg:List Sg) (at_:List Nat):Prop:=1 <= at_.length/\at_.length <= 4/\∀ n ∈ at_,n < sg.length
def FoG (sg:List Sg) (at_:List Nat) (f:Fm):Prop:=∃ ss,AtS sg at_ ss/\FmG ss f
def spDrawn:Sp:=fun vs H Q _=>∃ (a:Addr) (cs:List Int),vs=[.ref a]/\H a=some (.lst (cs.map V.int))/\cs.length <= 63/\(∀ c ∈ cs,0 <= c/\c < 1000000000000000000)/\CaseQ H Q
def LoP (f:Fm) (rs:List Rw) (j:Nat) (ls:List Nat):Prop:=ls.length <= j/\(ls.length=j->∀ (k n:Nat),ls[k]?=some n->∃ r,rs[n]?=some r/\f.br[k]?=some r.sg)
section
variable {P:Program} {w:World} {K:PySem.W.Frag} {mg:Str->Option Value} {base:Heap} {T:Adr}
theorem ok_drawn (X:Tx K mg T):FnOk P w K mg base CX0 16 T.qdrawn T.d_qdrawn ["_law_cells"] spDrawn:=by
  have G_qdeck:=(ok_deck (P:=P) (w:=w) (base:=base) X).mono (show 1 <= 15 by decide)
  have G_qword:=(ok_word (P:=P) (w:=w) (base:=base) X).mono (show 1 <= 15 by decide)
  have G_qsigns:=(ok_signs (P:=P) (w:=w) (base:=base) X).mono (show 2 <= 15 by decide)
  have G_qform:=(ok_form (P:=P) (w:=w) (base:=base) X).mono (show 3 <= 15 by decide)
  have G_qput:=ok_put (P:=P) (w:=w) (base:=base) X
  refine X.F_qdrawn.okQ sc_qdrawn (fun vs H Q E h=>?_) (fun cdv A outer s H vs Q E hr h=>?_)
  · obtain⟨_,_,rfl,_⟩:=h
    rfl
  obtain⟨a,cs,rfl,ha,l63,hcs,q⟩:=h
  refine⟨_,(qss_cons (qs_set (i:=1) sc_qdrawn.nd rfl (Or.inr rfl) (qe_call G_qdeck hr rfl X.m_qdeck X.F_qdeck.kp X.b_qdeck .nil pass0 (qaN (qv 0) (qaC qe_int qa_nil)))) (qss_cons (qs_set (i:=2) sc_qdrawn.nd rfl (Or.inr rfl) (qe_bm0 PySem.F.plainAttrs_list PySem.F.slot_list_pop PySem.F.type_list_pop mt_pop (qv 1))) (qss_cons (qs_set (i:=3) sc_qdrawn.nd rfl (Or.inr rfl) (qe_call G_qsigns hr rfl X.m_qsigns X.F_qsigns.kp X.b_qsigns .nil pass0 (qaN (qv 1) (qaB (qe_op op_add qe_int (qe_op op_mod (qv 2) qe_int)) qa_nil)))) (qss_cons (qs_set (i:=4) sc_qdrawn.nd rfl (Or.inr rfl) (qe_bm0 PySem.F.plainAttrs_list PySem.F.slot_list_pop PySem.F.type_list_pop mt_pop (qv 1))) (qss_cons (qs_set (i:=5) sc_qdrawn.nd rfl (Or.inr rfl) (qe_comp (ys:=[]) (js:=[]) rfl rfl (qi_range1 rfl X.z_range (qaK (qe_callB call_len_seq rfl X.z_len PySem.boot_len (qaN (qv 3) qa_nil)) qa_nil)) (fun _ _ _ _ _=>qif_nil) (fun _ _ _ _ _=>(qe_lst (qaN (qv 0) qa_nil))))) (qss_cons (qs_for PassesOwn.never rfl (qi_range1 rfl X.z_range (qaB (qe_op op_add qe_int (qe_op op_mod (qe_op op_fdiv (qv 2) qe_int) qe_int)) qa_nil)) (qg_name (i:=6) sc_qdrawn.nd rfl (Or.inl rfl)) (qss_cons (qs_set (i:=7) sc_qdrawn.nd rfl (Or.inr rfl) (qe_bm0 PySem.F.plainAttrs_list PySem.F.slot_list_pop PySem.F.type_list_pop mt_pop (qv 1))) (qss_one (qs_expr (qe_bm PySem.F.plainAttrs_list PySem.F.slot_list_append PySem.F.type_list_append mt_append (qv 5) (qaE (qe_comp (ys:=["_law_signs_here", "_law_shape"]) (js:=[3,7]) rfl rfl (qi_range1 rfl X.z_range (qaB (qe_op op_add qe_int (qe_op op_mod (qv 7) qe_int)) qa_nil)) (fun _ _ _ _ _=>qif_nil) (fun _ _ _ _ _=>(qe_op op_mod (qe_op op_fdiv (qv 2) (qe_op op_add qe_int (qe_op op_mul qe_int (qv 0)))) (qe_callB (call_len_seqC (K:=K) rfl) rfl X.z_len PySem.boot_len (qaN (qv 1) qa_nil))))) qa_nil)))))) (qss_cons (qs_set (i:=8) sc_qdrawn.nd rfl (Or.inr rfl) (qe_op op_mod (qe_op op_fdiv (qv 2) qe_int) qe_int)) (qss_cons (qs_setC (ys:=["_law_deck_here", "_law_signs_here", "_law_word_here", "_law_shapes", "_law_mode"]) (js:=[1,3,4,5,8]) rfl rfl (qi_range1 rfl X.z_range (qaK (qe_callB call_len_seq rfl X.z_len PySem.boot_len (qaN (qv 5) qa_nil)) qa_nil)) (fun _ _ _ _ _=>qif_nil) (fun _ _ _ _ _=>(qe_call G_qform hr rfl X.m_qform X.F_qform.kp X.b_qform .nil pass0 (qaN (qv 2) (qaK (qe_call G_qword hr rfl X.m_qword X.F_qword.kp X.b_qword .nil pass0 (qaN (qv 3) (qaN (qv 0) qa_nil))) (qaS (qe_ix (ix_listC (K:=K) rfl) (qv 4) (qv 0) (fun _ _=>rfl)) (qaN (qv 5) (qaN (qv 1) qa_nil))))))) (qg_name (i:=9) sc_qdrawn.nd rfl (Or.inl rfl)) rfl) (qss_cons (qs_set (i:=10) sc_qdrawn.nd rfl (Or.inl rfl) (qe_tup (qaN (qv 3) (qaK (qe_callTy call_tuple_of rfl X.z_tuple PyProof.Rows.boot_tuple (qaN (qv 9) qa_nil)) qa_nil)))) (qss_cons (qs_set (i:=11) sc_qdrawn.nd rfl (Or.inr rfl) (qe_lst qa_nil)) (qss_cons (qs_for PassesOwn.never rfl (qi_list (qe_op op_cat (qe_callTy (call_list_rng rfl) rfl X.z_list PyProof.Rows.boot_list (qaK (qe_callTy call_range1 rfl X.z_range PyProof.Rows.boot_range (qaK (qe_callB call_len_seq rfl X.z_len PySem.boot_len (qaN (qv 3) qa_nil)) qa_nil)) qa_nil)) (qv 0))) (qg_name (i:=2) sc_qdrawn.nd rfl (Or.inr rfl)) (qss_cons (qs_set (i:=12) sc_qdrawn.nd rfl (Or.inr rfl) (qe_ix ix_list (qv 9) (qe_op op_mod (qv 2) (qe_callB call_len_seq rfl X.z_len PySem.boot_len (qaN (qv 9) qa_nil))) (fun _ _=>rfl))) (qss_cons (qs_set (i:=13) sc_qdrawn.nd rfl (Or.inl rfl) (qe_lst qa_nil)) (qss_cons (qs_for PassesOwn.never rfl (qi_range1 rfl X.z_range (qaK (qe_callB call_len_seq rfl X.z_len PySem.boot_len (qaS (qe_ix ix_tup (qv 12) qe_int (fun _ _=>rfl)) qa_nil)) qa_nil)) (qg_name (i:=14) sc_qdrawn.nd rfl (Or.inr rfl)) (qss_cons (qs_set (i:=15) sc_qdrawn.nd rfl (Or.inr rfl) (qe_comp (ys:=["_law_rows", "_law_form_here", "_law_j"]) (js:=[11,12,14]) rfl rfl (qi_range1 rfl X.z_range (qaK (qe_callB call_len_seq rfl X.z_len PySem.boot_len (qaN (qv 11) qa_nil)) qa_nil)) (fun _ _ _ _ _=>qif_one (qt_cmpR op_eq (qe_ix (ix_tupC (K:=K) rfl) (qe_ix (ix_listC (K:=K) rfl) (qv 1) (qv 0) (fun _ _=>rfl)) qe_int (fun _ _=>rfl)) (qe_ix (ix_tupC (K:=K) rfl) (qe_ix (ix_tupC (K:=K) rfl) (qv 2) qe_int (fun _ _=>rfl)) (qv 3) (fun _ _=>rfl)) (nomark _))) (fun _ _ _ _ _=>(qv 0)))) (qss_one (qs_set (i:=13) sc_qdrawn.nd rfl (Or.inl rfl) (qe_op op_cat (qv 13) (qe_comp (ys:=["_law_cell", "_law_j", "_law_some"]) (js:=[2,14,15]) rfl rfl (qi_range1 rfl X.z_range (qaK (qe_callB (call_min2 rfl) rfl X.z_min PyProof.Rows.boot_min (qaC qe_int (qaK (qe_callB call_len_seq rfl X.z_len PySem.boot_len (qaN (qv 15) qa_nil)) qa_nil))) qa_nil)) (fun _ _ _ _ _=>qif_nil) (fun _ _ _ _ _=>(qe_ix (ix_listC (K:=K) rfl) (qv 3) (qe_op op_mod (qe_op op_fdiv (qv 1) (qe_op op_add qe_int (qe_op op_mul qe_int (qv 2)))) (qe_callB (call_len_seqC (K:=K) rfl) rfl X.z_len PySem.boot_len (qaN (qv 3) qa_nil))) (fun _ _=>rfl))))))))) (qss_one (qs_if (qt_cmpR op_eq (qe_callB call_len_seq rfl X.z_len PySem.boot_len (qaN (qv 13) qa_nil)) (qe_callB call_len_seq rfl X.z_len PySem.boot_len (qaS (qe_ix ix_tup (qv 12) qe_int (fun _ _=>rfl)) qa_nil)) (nomark _)) (qss_one (qs_expr (qe_call G_qput hr rfl X.m_qput X.F_qput.kp X.b_qput .nil pass0 (qaN (qv 10) (qaN (qv 11) (qaN (qv 12) (qaK (qe_callTy call_tuple_of rfl X.z_tuple PyProof.Rows.boot_tuple (qaN (qv 13) qa_nil)) qa_nil))))))) qss_nil)))))) (qss_one (qs_ret (qe_lst (qaN (qv 10) (qaN (qv 11) qa_nil)))))))))))))))),?_⟩
  dsimp only[cxOf]
  refine⟨_,rfl,a,cs,rfl,ha,l63,hcs,fun D dk H1 s1 hD0 hD1 ld hdk=>?_⟩
  obtain⟨dk2,c,rfl⟩:=snoc_of (l:=dk) (by omega)
  rw[List.length_append,List.length_singleton] at ld
  have hD1:H1 D=some (.lst (dk2.map V.int++[.int c])):=by rw[hD1,List.map_append];rfl
  have c0:=(hdk c (by simp)).1
  refine⟨_,rfl,.inl ⟨rfl,_,SqL.of hD1⟩,D,_,.int c,rfl,rfl,hD1,by simp,?_⟩
  dsimp only
  rw[List.dropLast_concat]
  have s2:Same H (upd H1 D (.lst (dk2.map V.int))):=same_upd hD0 s1
  have hD2:=upd_same (H:=H1) (a:=D) (o:=.lst (dk2.map V.int))
  generalize upd H1 D (.lst (dk2.map V.int))=H2 at s2 hD2 ⊢
  have m3a:=Int.emod_nonneg c (show (3:Int) ≠ 0 by decide)
  have m3b:=Int.emod_lt_of_pos c (show (0:Int) < 3 by decide)
  refine⟨_,rfl,_,rfl,_,_,rfl,rfl,(by show (0:Int) < 3;decide),_,_,rfl,rfl,D,dk2,(1+c % 3).toNat,by rw[Int.toNat_of_nonneg (by omega)];rfl,hD2,by omega,by omega,by omega,by omega,(fun z hz=>(hdk z (List.mem_append_left _ hz)).1),fun sa sus sg dk3 H3 k3 hD3 l3 l3' m3 hsa hsg gsg=>?_⟩
  have fD:∀ x ∈ [D],H x=none:=fun x hx=>by rw[List.mem_singleton.mp hx];exact hD0
  have s3:=Same.kp fD s2 k3
  have g1:=gsg.l1
  have g3:=gsg.l3
  have lsu:=hsg.len
  obtain⟨dk4,wh,rfl⟩:=snoc_of (l:=dk3) (by omega)
  rw[List.length_append,List.length_singleton] at l3 l3'
  have hD3:H3 D=some (.lst (dk4.map V.int++[.int wh])):=by rw[hD3,List.map_append];rfl
  refine⟨_,rfl,.inl ⟨rfl,_,SqL.of hD3⟩,D,_,.int wh,rfl,rfl,hD3,by simp,?_⟩
  dsimp only
  rw[List.dropLast_concat]
  have T4:SameT H3 (upd H3 D (.lst (dk4.map V.int))):=sameT_lst hD3
  have s4:Same H (upd H3 D (.lst (dk4.map V.int))):=same_upd hD0 s3
  have hD4:=upd_same (H:=H3) (a:=D) (o:=.lst (dk4.map V.int))
  have hsa4:=T4 _ _ hsa
  have hsg4:L2R (SgIs (upd H3 D (.lst (dk4.map V.int)))) sg sus:=hsg.imp fun _ _ h=>SgIs.same T4 h
  generalize upd H3 D (.lst (dk4.map V.int))=H4 at s4 hD4 hsa4 hsg4 ⊢
  clear T4 s3 s2 s1 k3 hD1 hD2 hD3 hsa hsg
  refine⟨_,rfl,sa,_,rfl,.inr (SqT.of hsa4),_,rfl,by omega,by omega,fun SH hSH=>?_⟩
  have nSD:SH ≠ D:=fun z=>by rw[z,hD4] at hSH;cases hSH
  have fSH:=s4.free hSH
  refine comp_rng (fun j acc J=>Same H4 J/\J SH=some (.lst acc)/\L2R (ShI [D,SH] J) ((List.range j).map fun k=>[k]) acc) (fitsL (by omega)) ⟨same_new hSH _,upd_same,.nil⟩ (fun j acc J ⟨_,d,r⟩=>⟨d,by rw[r.len,List.length_map,List.length_range]⟩) ?_ ?_
  · rintro j m' acc J hj ⟨smJ,hSJ,rJ⟩ hm'
    refine⟨_,rfl,(by show 1 <= sizeLine;decide),fun p hp=>?_⟩
    have z1:=same_new hp (.lst [.int (0+(j:Int))])
    have npS:p ≠ SH:=fun z=>by rw[z,hSJ] at hp;cases hp
    have npD:p ≠ D:=fun z=>by rw[z,smJ _ _ hD4] at hp;cases hp
    refine cstep hj hm' (z1 _ _ hSJ) ⟨same_upd hSH (smJ.trans z1),upd_same,?_⟩
    rw[List.range_succ,List.map_append]
    have kk:Kp [D,SH] J (upd (upd J p (.lst [.int (0+(j:Int))])) SH (.lst (acc++[.ref p]))):=(Kp.of z1).upd (by simp)
    refine (rJ.imp fun _ _ h=>ShI.kp kk h).snoc ⟨p,rfl,by simp[npS,npD],?_⟩
    rw[upd_ne npS,upd_same,show (0+(j:Int))=(j:Int) by omega]
    rfl
  rintro shv H5 ⟨s45,hS5,r5⟩
  have s5:=s4.trans s45
  have hD5:=s45 _ _ hD4
  have hsa5:=s45 _ _ hsa4
  have hsg5:L2R (SgIs H5) sg sus:=hsg4.imp fun _ _ h=>SgIs.same (sameT s45) h
  have elen:((sus.length:Int)).toNat=sg.length:=by omega
  rw[elen] at r5
  have fDS:∀ x ∈ [D,SH],H x=none:=fun x hx=>by
    rcases List.mem_cons.mp hx with rfl | hx
    · exact hD0
    · rw[List.mem_singleton.mp hx];exact fSH
  clear s45 hD4 hsa4 hsg4 s4 hSH
  have m5a:=Int.emod_nonneg (c / 3) (show (5:Int) ≠ 0 by decide)
  have m5b:=Int.emod_lt_of_pos (c / 3) (show (0:Int) < 5 by decide)
  refine⟨_,rfl,_,_,rfl,rfl,⟨by decide,by decide⟩,_,_,rfl,rfl,(by show (0:Int) < 5;decide),_,_,rfl,rfl,_,rfl,by omega,by omega,?_⟩
  refine for_range (n:=(2+c / 3 % 5).toNat) (fun i σ H'=>∃ (dks:List Int) (ats:List (List Nat)) (shv:List V) (x6 x7:Option V),σ=[some (.ref a),some (.ref D),some (.int c),some (.ref sa),some (.int wh),some (.ref SH),x6,x7,none,none,none,none,none,none,none,none]/\Kp [D,SH] H5 H'/\H' D=some (.lst (dks.map V.int))/\dks.length+i=dk4.length/\H' SH=some (.lst shv)/\L2R (ShI [D,SH] H') ats shv/\ats.length=sg.length+i/\ats[0]?=some [0]/\∀ t ∈ ats,ShO sg t)
    ⟨dk4,_,shv,none,none,rfl,Kp.refl _ _,hD5,rfl,hS5,r5,by rw[List.length_map,List.length_range];rfl,by rw[List.getElem?_map,List.getElem?_range (by omega)];rfl,fun t ht=>?_⟩ ?_ ?_
  · obtain⟨k,hk,rfl⟩:=List.mem_map.mp ht
    exact⟨Nat.le_refl 1,(by decide:1 <= 4),fun n hn=>by rw[List.mem_singleton.mp hn];exact List.mem_range.mp hk⟩
  · rintro i σ H' hi ⟨dks,ats,shv,x6,x7,rfl,kp,hD',ldk,hS',rS,lats,ats0,hats⟩
    obtain⟨ds',sp,rfl⟩:=snoc_of (l:=dks) (by omega)
    rw[List.length_append,List.length_singleton] at ldk
    have hD':H' D=some (.lst (ds'.map V.int++[.int sp])):=by rw[hD',List.map_append];rfl
    refine⟨_,rfl,.inl ⟨rfl,_,SqL.of hD'⟩,D,_,.int sp,rfl,rfl,hD',by simp,?_⟩
    dsimp only
    rw[List.dropLast_concat]
    have kp1:Kp [D,SH] H' (upd H' D (.lst (ds'.map V.int))):=(Kp.refl _ _).upd (by simp)
    have hD1:=upd_same (H:=H') (a:=D) (o:=.lst (ds'.map V.int))
    have hS1:upd H' D (.lst (ds'.map V.int)) SH=some (.lst shv):=by rw[upd_ne nSD];exact hS'
    generalize upd H' D (.lst (ds'.map V.int))=G1 at kp1 hD1 hS1 ⊢
    have TT:SameT H5 G1:=(kp.trans kp1).T fun x hx=>by
      rcases List.mem_cons.mp hx with rfl | hx
      · exact⟨_,hD5⟩
      · rw[List.mem_singleton.mp hx];exact⟨_,hS5⟩
    have m4a:=Int.emod_nonneg sp (show (4:Int) ≠ 0 by decide)
    have m4b:=Int.emod_lt_of_pos sp (show (0:Int) < 4 by decide)
    refine⟨_,rfl,.inl ⟨rfl,_,SqL.of hS1⟩,_,rfl,_,_,rfl,rfl,(by show (0:Int) < 4;decide),_,_,rfl,rfl,_,rfl,by omega,by omega,fun C hC=>?_⟩
    refine comp_rng (fun j acc J=>∃ ls:List Nat,ls.length=j/\(∀ n ∈ ls,n < sg.length)/\acc=atV ls/\Same G1 J/\J C=some (.lst acc)) (fitsL (by omega)) ⟨[],rfl,(fun n h=>nomatch h),rfl,same_new hC _,upd_same⟩ (fun j acc J ⟨ls,l,_,e,_,d⟩=>⟨d,by rw[e];unfold atV;rw[List.length_map,l]⟩) ?_ ?_
    · rintro j m' acc J hj ⟨ls,lls,hls,rfl,smJ,hCJ⟩ hm'
      have dv:CDiv sp (5+7 * (0+(j:Int))):=by
        have:j=0\/j=1\/j=2\/j=3:=by omega
        rcases this with rfl | rfl | rfl | rfl <;> exact⟨by decide,by decide⟩
      have y0:=Int.emod_nonneg (sp / (5+7 * (0+(j:Int)))) (show (sus.length:Int) ≠ 0 by omega)
      have y1:=Int.emod_lt_of_pos (sp / (5+7 * (0+(j:Int)))) (show (0:Int) < sus.length by omega)
      refine⟨_,rfl,_,rfl,_,_,rfl,rfl,.inl ⟨by decide,by decide⟩,_,_,rfl,rfl,_,_,rfl,rfl,dv,_,rfl,sa,_,rfl,.inr (SqT.of (smJ _ _ (TT _ _ hsa5))),_,_,rfl,rfl,(by show (0:Int) < sus.length;omega),?_⟩
      refine cstep hj hm' hCJ ⟨ls++[(sp / (5+7 * (0+(j:Int))) % (sus.length:Int)).toNat],by rw[List.length_append,lls];rfl,fun n hn=>?_,?_,same_upd hC smJ,upd_same⟩
      · rcases List.mem_append.mp hn with h | h
        · exact hls n h
        · rw[List.mem_singleton.mp h];omega
      · unfold atV
        rw[List.map_append]
        congr 1
        show [V.int _]=[V.int _]
        rw[Int.toNat_of_nonneg y0]
    rintro acc G2 ⟨ls,lls,hls,rfl,s12,hC2⟩
    refine⟨SH,shv,_,rfl,rfl,s12 _ _ hS1,fitsL (by rw[rS.len,lats];omega),?_⟩
    have nCS:C ≠ SH:=fun z=>by rw[z,hS1] at hC;cases hC
    have nCD:C ≠ D:=fun z=>by rw[z,hD1] at hC;cases hC
    have kp2:Kp [D,SH] H' (upd G2 SH (.lst (shv++[.ref C]))):=(kp1.same s12).upd (by simp)
    refine⟨ds',ats++[ls],shv++[.ref C],_,_,rfl,kp.trans kp2,by rw[upd_ne nSD.symm];exact s12 _ _ hD1,by omega,upd_same,(rS.imp fun _ _ h=>ShI.kp kp2 h).snoc ⟨C,rfl,by simp[nCS,nCD],by rw[upd_ne nCS];exact hC2⟩,by rw[List.length_append,lats];rfl,by rw[List.getElem?_append_left (by omega)];exact ats0,fun t ht=>?_⟩
    rcases List.mem_append.mp ht with h | h
    · exact hats t h
    · rw[List.mem_singleton.mp h]
      exact⟨by omega,by omega,hls⟩
  rintro σ H6 ⟨dks,ats,shv6,x6,x7,rfl,kp,hD6,ldk,hS6,rS,lats,ats0,hats⟩
  have T56:SameT H5 H6:=kp.T fun x hx=>by
    rcases List.mem_cons.mp hx with rfl | hx
    · exact⟨_,hD5⟩
    · rw[List.mem_singleton.mp hx];exact⟨_,hS5⟩
  have s6:=Same.kp fDS s5 kp
  have hsa6:=T56 _ _ hsa5
  have hsg6:L2R (SgIs H6) sg sus:=hsg5.imp fun _ _ h=>SgIs.same T56 h
  have lsh:=rS.len
  clear T56 kp s5 hsa5 hsg5 hD5 hS5 r5
  refine⟨_,rfl,_,_,rfl,rfl,⟨by decide,by decide⟩,_,_,rfl,rfl,(by show (0:Int) < 3;decide),?_⟩
  dsimp only
  have md0:=Int.emod_nonneg (c / 15) (show (3:Int) ≠ 0 by decide)
  have md1:=Int.emod_lt_of_pos (c / 15) (show (0:Int) < 3 by decide)
  generalize c / 15 % 3=md at md0 md1 ⊢
  refine⟨_,rfl,SH,_,rfl,.inl (SqL.of hS6),_,rfl,by omega,by omega,fun FL hFL=>?_⟩
  have nFD:FL ≠ D:=fun z=>by rw[z,hD6] at hFL;cases hFL
  refine comp_rng (fun j acc J=>∃ (fs:List Fm) (ds:List Int),Kp [D] H6 J/\J FL=some (.lst acc)/\J D=some (.lst (ds.map V.int))/\dks.length <= ds.length+17 * j/\ds.length <= 200/\L2R (FmIs J) fs acc/\fs.length=j/\∀ (i:Nat) f t,fs[i]?=some f->ats[i]?=some t->FoG sg t f) (fitsL (by omega)) ⟨[],dks,(Kp.refl _ _).new hFL,upd_same,by rw[upd_ne nFD.symm];exact hD6,by omega,by omega,.nil,rfl,(fun i f t h=>by simp at h)⟩ (fun j acc J ⟨fs,ds,_,d,_,_,_,r,l,_⟩=>⟨d,by rw[r.len,l]⟩) ?_ ?_
  · rintro j m' acc J hj ⟨fs,ds,kJ,hFJ,hDJ,ld1,ld2,rJ,lfs,hfo⟩ hm'
    obtain⟨v,hv⟩:=some_of_lt (xs:=shv6) (i:=j) (by omega)
    obtain⟨t,ht,tp,rfl,ntp,htp⟩:=rS.get hv
    obtain⟨t1,t4,tn⟩:=hats t (List.mem_of_getElem? ht)
    obtain⟨ss,ats'⟩:=ats_of tn
    have TJ:SameT H6 J:=kJ.T fun x hx=>by rw[List.mem_singleton.mp hx];exact⟨_,hD6⟩
    have ntD:tp ≠ D:=fun z=>ntp (by simp[z])
    have nSD1:SH ∉ [D]:=by simpa using nSD
    refine⟨_,rfl,_,rfl,_,rfl,wh,_,rfl,_,rfl,_,rfl,SH,_,_,.ref tp,rfl,rfl,SqL.of (kJ _ _ nSD1 hS6),by rw[show (0+(j:Int))=(j:Int) by omega];exact atI_nat hv,_,rfl,_,rfl,sa,tp,D,sus,sg,ss,t,_,md,ds,rfl,TJ _ _ hsa6,hsg6.imp fun _ _ h=>SgIs.same TJ h,kJ _ _ (by simpa using ntD) htp,ats',t1,t4,gsg.g,md0,md1,ntD,hDJ,by omega,ld2,fun v f ds' J' k' hD' lds lds' _ hf _ gf=>?_⟩
    have hF':=k' _ _ (by simpa using nFD) hFJ
    have T1:SameT J J':=k'.T fun x hx=>by rw[List.mem_singleton.mp hx];exact⟨_,hDJ⟩
    have TL:SameT J' (upd J' FL (.lst (acc++[v]))):=sameT_lst hF'
    refine cstep hj hm' hF' ⟨fs++[f],ds',(kJ.trans k').new hFL,upd_same,by rw[upd_ne nFD.symm];exact hD',by omega,lds',(rJ.imp fun _ _ h=>FmIs.same (T1.trans TL) h).snoc (FmIs.same TL hf),by rw[List.length_append,lfs];rfl,fun i f' t' h1 h2=>?_⟩
    by_cases hi:i < fs.length
    · rw[List.getElem?_append_left hi] at h1
      exact hfo i f' t' h1 h2
    · rw[List.getElem?_append_right (by omega)] at h1
      have h0:i - fs.length=0:=by
        have:=lt_of_some h1
        simp at this
        omega
      rw[h0] at h1
      cases h1
      rw[show i=j by omega,ht] at h2
      cases h2
      exact⟨ss,ats',gf⟩
  rintro fvs H7 ⟨fs,_,k7,hF7,_,_,_,r7,lfs,hfo⟩
  have s7:=Same.kp fD s6 k7
  have T67:SameT H6 H7:=k7.T fun x hx=>by rw[List.mem_singleton.mp hx];exact⟨_,hD6⟩
  have hsa7:=T67 _ _ hsa6
  have hsg7:L2R (SgIs H7) sg sus:=hsg6.imp fun _ _ h=>SgIs.same T67 h
  clear T67 k7 s6 hsa6 hsg6
  have lfv:=r7.len
  refine⟨_,rfl,_,rfl,FL,_,rfl,.inl ⟨SqL.of hF7,fun tf htf=>?_⟩⟩
  have z1:=same_new htf (.tup fvs)
  refine⟨(by show 2 <= sizeLine;decide),fun gp hgp=>?_⟩
  have z2:=same_new hgp (.tup [.ref sa,.ref tf])
  refine⟨(by show 0 <= sizeLine;decide),fun L hL=>?_⟩
  have z3:=same_new hL (.lst [])
  have zA:=z1.trans (z2.trans z3)
  have fL:=s7.free (z1.free (z2.free hL))
  have nFL:FL ≠ L:=fun z=>by rw[<- z,(z1.trans z2) _ _ hF7] at hL;cases hL
  have hg8:=z3 _ _ (upd_same (H:=upd H7 tf (.tup fvs)) (a:=gp) (o:=.tup [.ref sa,.ref tf]))
  have hL8:=upd_same (H:=upd (upd H7 tf (.tup fvs)) gp (.tup [.ref sa,.ref tf])) (a:=L) (o:=.lst [])
  have s8:=s7.trans zA
  have hsa8:=zA _ _ hsa7
  have hsg8:=hsg7.imp fun _ _ h=>SgIs.same (sameT zA) h
  have hF8:=zA _ _ hF7
  have r8:=r7.imp fun _ _ h=>FmIs.same (sameT zA) h
  generalize upd (upd (upd H7 tf (.tup fvs)) gp (.tup [.ref sa,.ref tf])) L (.lst [])=H8 at hg8 hL8 s8 hsa8 hsg8 hF8 r8 ⊢
  clear zA z1 z2 z3 s7 hsa7 hsg7 hF7 r7
  refine⟨_,rfl,sa,_,rfl,.inr (SqT.of hsa8),_,rfl,fun p1 hp1=>⟨p1,_,rfl,upd_same,by omega,by omega,fun l1 hl1=>?_⟩⟩
  have y1:=same_new hp1 (.rng 0 sus.length)
  have y2:=same_new hl1 (.lst ((List.range ((sus.length:Int)).toNat).map fun (i:Nat)=>V.int (i:Int)))
  have hn66:((List.range ((sus.length:Int)).toNat).map fun (i:Nat)=>V.int (i:Int)).length+(cs.map V.int).length <= 66:=by
    rw[List.length_map,List.length_map,List.length_range]
    omega
  refine⟨_,rfl,l1,a,_,_,rfl,rfl,upd_same,(s8.trans (y1.trans y2)) _ _ ha,fits2 (by omega),fun l2 hl2=>?_⟩
  obtain⟨zs,ezs,z0,lz⟩ : ∃ zs:List Int,((List.range ((sus.length:Int)).toNat).map fun (i:Nat)=>V.int (i:Int))++cs.map V.int=zs.map V.int/\zs[0]?=some 0/\zs.length <= 66:=by
    refine⟨(List.range ((sus.length:Int)).toNat).map (fun (i:Nat)=>(i:Int))++cs,?_,?_,?_⟩
    · rw[List.map_append,List.map_map]
      rfl
    · rw[List.getElem?_append_left (by rw[List.length_map,List.length_range];omega),List.getElem?_map,List.getElem?_range (by omega)]
      rfl
    · rw[List.length_append,List.length_map,List.length_range]
      omega
  rw[ezs]
  have y3:=same_new hl2 (.lst (zs.map V.int))
  have yA:=y1.trans (y2.trans y3)
  have hg9:=yA _ _ hg8
  have hL9:=yA _ _ hL8
  have s9:=s8.trans yA
  have hsa9:=yA _ _ hsa8
  have hsg9:=hsg8.imp fun _ _ h=>SgIs.same (sameT yA) h
  have hF9:=yA _ _ hF8
  have r9:=r8.imp fun _ _ h=>FmIs.same (sameT yA) h
  have nl2:l2 ≠ L:=fun z=>by rw[z,(y1.trans y2) _ _ hL8] at hl2;cases hl2
  have hl9:=upd_same (H:=upd (upd H8 p1 (.rng 0 sus.length)) l1 (.lst ((List.range ((sus.length:Int)).toNat).map fun (i:Nat)=>V.int (i:Int)))) (a:=l2) (o:=.lst (zs.map V.int))
  generalize upd (upd (upd H8 p1 (.rng 0 sus.length)) l1 (.lst ((List.range ((sus.length:Int)).toNat).map fun (i:Nat)=>V.int (i:Int)))) l2 (.lst (zs.map V.int))=H9 at hg9 hL9 s9 hsa9 hsg9 hF9 r9 hl9 ⊢
  refine⟨l2,rfl,⟨_,SqL.of hl9⟩,?_⟩
  have lzv:(zs.map V.int).length=zs.length:=List.length_map _
  have lfs1:fs.length=ats.length:=by omega
  refine for_list (K:=K) (xs:=zs.map V.int) (fun i σ H'=>∃ (rs:List Rw) (us:List V) (x2 x6 x7 x12 x13 x14 x15:Option V),σ=[some (.ref a),some (.ref D),x2,some (.ref sa),some (.int wh),some (.ref SH),x6,x7,some (.int md),some (.ref FL),some (.ref gp),some (.ref L),x12,x13,x14,x15]/\Kp [L] H9 H'/\H' L=some (.lst us)/\L2R (RwIs H') rs us/\RwOk rs/\RowsG sg rs/\rs.length <= i/\(0 < i->rs ≠ []))
    ⟨[],[],_,_,_,_,_,_,_,rfl,Kp.refl _ _,hL9,.nil,⟨by decide,fun i r h=>by simp at h⟩,(fun r h=>nomatch h),Nat.le_refl _,fun h=>absurd h (by decide)⟩ (fun i σ H' _ ⟨_,_,_,_,_,_,_,_,_,_,kp,_⟩=>SqL.of (kp _ _ (by simpa using nl2) hl9)) ?_ ?_
  · rintro i x σ H' hx ⟨rs,us,x2,x6,x7,x12,x13,x14,x15,rfl,kp,hL',hrs,ok,rg,lr,ne⟩
    have hi66:i < 66:=by have:=lt_of_some hx;omega
    rw[List.getElem?_map] at hx
    cases hz:zs[i]? with
    | none=>rw[hz] at hx;cases hx
    | some z=>
    rw[hz] at hx
    cases hx
    have TT:SameT H9 H':=kp.T fun x hx=>by rw[List.mem_singleton.mp hx];exact⟨_,hL9⟩
    have hg':=TT _ _ hg9
    have hsa':=TT _ _ hsa9
    have hsg':L2R (SgIs H') sg sus:=hsg9.imp fun _ _ h=>SgIs.same TT h
    have hF':=kp _ _ (by simpa using nFL) hF9
    have r':L2R (FmIs H') fs fvs:=r9.imp fun _ _ h=>FmIs.same TT h
    have lus:=hrs.len
    have q0:=Int.emod_nonneg z (show (fvs.length:Int) ≠ 0 by omega)
    have q1:=Int.emod_lt_of_pos z (show (0:Int) < fvs.length by omega)
    obtain⟨v,hv⟩:=some_of_lt (xs:=fvs) (i:=(z % (fvs.length:Int)).toNat) (by omega)
    obtain⟨f,hf,hfv⟩:=r'.get hv
    obtain⟨t,ht⟩:=some_of_lt (xs:=ats) (i:=(z % (fvs.length:Int)).toNat) (by omega)
    obtain⟨ss,hss,gf⟩:=hfo _ f t hf ht
    obtain⟨t1,t4,tn⟩:=hats t (List.mem_of_getElem? ht)
    have lss:=hss.l
    have fp:=fmP_of hss gf gsg.g (by omega) (by omega)
    have lf:i=0->Leaf f/\f.br=[]:=fun h0=>by
      subst h0
      rw[z0] at hz
      cases hz
      rw[show ((0:Int) % (fvs.length:Int)).toNat=0 by simp,ats0] at ht
      cases ht
      refine⟨leaf_of gf (fun s hs=>?_) lss,?_⟩
      · obtain⟨k,hk⟩:=List.getElem?_of_mem hs
        exact gsg.g s (at_mem hss hk)
      · rw[gf.br]
        have:ss.drop 1=[]:=List.drop_eq_nil_of_le (by rw[lss];exact Nat.le_refl _)
        rw[this]
        rfl
    have b3:=fp.b3
    have hfv0:=hfv
    obtain⟨fa,fb,fr,fus,rfl,hfa,hfb,_⟩:=hfv
    refine⟨_,rfl,_,rfl,_,rfl,FL,_,rfl,.inl (SqL.of hF'),_,_,rfl,rfl,(by show (0:Int) < fvs.length;omega),FL,_,_,.ref fa,rfl,rfl,SqL.of hF',by rw[<- Int.toNat_of_nonneg q0];exact atI_nat hv,?_⟩
    refine⟨(by show 0 <= sizeLine;decide),fun p0 hp0=>?_⟩
    have w0:=same_new hp0 (.lst [])
    have lbr:(f.br.map V.str).length=f.br.length:=List.length_map _
    refine⟨_,rfl,fa,_,2,.ref fb,rfl,rfl,SqT.of (w0 _ _ hfa),rfl,fb,_,rfl,.inr (SqT.of (w0 _ _ hfb)),_,rfl,by omega,by omega,?_⟩
    refine for_range (n:=((f.br.map V.str).length:Int).toNat) (fun j σ J=>∃ (ls:List Nat) (lw:Addr) (x14 x15:Option V),σ=[some (.ref a),some (.ref D),some (.int z),some (.ref sa),some (.int wh),some (.ref SH),x6,x7,some (.int md),some (.ref FL),some (.ref gp),some (.ref L),some (.ref fa),some (.ref lw),x14,x15]/\Same H' J/\J lw=some (.lst (lowV ls))/\LoP f rs j ls)
      ⟨[],p0,_,_,rfl,w0,upd_same,Nat.le_refl _,fun _ k n h=>by simp at h⟩ ?_ ?_
    · rintro j σ J hj ⟨ls,lw,y14,y15,rfl,smJ,hlw,lls,lop⟩
      have hjb:j < f.br.length:=by omega
      have e0:(0+(j:Int))=(j:Int):=by omega
      obtain⟨bn,hbn⟩:=some_of_lt hjb
      have hbv:(f.br.map V.str)[j]?=some (.str bn):=by rw[List.getElem?_map,hbn];rfl
      refine⟨_,rfl,L,_,rfl,.inl (SqL.of (smJ _ _ hL')),_,rfl,by omega,by omega,fun SO hSO=>?_⟩
      refine comp_rngF (fun k=>decide (V.str ((rs.getD k ⟨"",[], "",[]⟩).sg)=V.str bn)) (fitsL (by omega)) hSO (fun k J2 hk s2 Q' hQ=>?_) (fun k J2 hk Q' hQ=>?_) (fun J2 s2 hS2=>?_)
      · obtain⟨u,hu⟩:=some_of_lt (xs:=us) (i:=k) (by omega)
        obtain⟨r,hrk,pr,rp,rus,tt,rfl,hpr,_⟩:=hrs.get hu
        have sm2:=smJ.trans s2
        refine⟨_,rfl,_,rfl,L,_,_,.ref pr,rfl,rfl,SqL.of (sm2 _ _ hL'),by rw[show (0+(k:Int))=(k:Int) by omega];exact atI_nat hu,pr,_,0,.str r.sg,rfl,rfl,SqT.of (sm2 _ _ hpr),rfl,_,rfl,fa,_,2,.ref fb,rfl,rfl,SqT.of (sm2 _ _ hfa),rfl,_,rfl,fb,_,_,.str bn,rfl,rfl,SqT.of (sm2 _ _ hfb),by rw[e0];exact atI_nat hbv,rfl,_,rfl,?_⟩
        have er:rs.getD k ⟨"",[], "",[]⟩=r:=by rw[List.getD_eq_getElem?_getD,hrk];rfl
        rw[er] at hQ
        exact hQ
      · exact⟨_,rfl,by rw[show (0+(k:Int))=(k:Int) by omega];exact hQ⟩
      generalize hso:(List.range ((us.length:Int)).toNat).filter (fun k=>decide (V.str ((rs.getD k ⟨"",[], "",[]⟩).sg)=V.str bn))=so at hS2
      have so_ok:∀ n ∈ so,∃ r,rs[n]?=some r/\f.br[j]?=some r.sg:=fun n hn=>by
        rw[<- hso] at hn
        obtain⟨h1,h2⟩:=List.mem_filter.mp hn
        have hn':n < rs.length:=by have:=List.mem_range.mp h1;omega
        obtain⟨r,hr'⟩:=some_of_lt hn'
        rw[List.getD_eq_getElem?_getD,hr'] at h2
        have h3:=of_decide_eq_true h2
        cases h3
        exact⟨r,hr',hbn⟩
      have sm2:=smJ.trans s2
      have lso:(lowV so).length=so.length:=by unfold lowV;rw[List.length_map]
      have hlw2:=s2 _ _ hlw
      refine⟨_,rfl,_,rfl,SO,_,rfl,.inl (SqL.of hS2),_,_,rfl,?_⟩
      generalize hN:(if ((lowV so).length:Int) < 1 then ((lowV so).length:Int) else 1)=N
      have N0:0 <= N:=by rw[<- hN];split <;> omega
      have N1:N <= 1:=by rw[<- hN];split <;> omega
      have Ns:0 < N->0 < so.length:=fun h=>by rw[<- hN] at h;split at h <;> omega
      refine⟨_,rfl,by omega,by omega,fun C hC=>?_⟩
      refine comp_rng (fun j' acc J3=>∃ ms:List Nat,ms.length=j'/\(∀ n ∈ ms,n ∈ so)/\acc=lowV ms/\Same J2 J3/\J3 C=some (.lst acc)) (fitsL (by omega)) ⟨[],rfl,(fun n h=>nomatch h),rfl,same_new hC _,upd_same⟩ (fun j acc J ⟨ms,l,_,e,_,d⟩=>⟨d,by rw[e];unfold lowV;rw[List.length_map,l]⟩) ?_ ?_
      · rintro j' m' acc J3 hj' ⟨ms,lms,hms,rfl,sm3,hC3⟩ hm'
        have so1:=Ns (by omega)
        have dv:CDiv z (10+9 * (0+(j:Int))):=by
          have:j=0\/j=1\/j=2:=by omega
          rcases this with rfl | rfl | rfl <;> exact⟨by decide,by decide⟩
        have y0:=Int.emod_nonneg (z / (10+9 * (0+(j:Int)))) (show ((lowV so).length:Int) ≠ 0 by omega)
        have y1:=Int.emod_lt_of_pos (z / (10+9 * (0+(j:Int)))) (show (0:Int) < ((lowV so).length:Int) by omega)
        obtain⟨n,hn⟩:=some_of_lt (xs:=so) (i:=(z / (10+9 * (0+(j:Int))) % ((lowV so).length:Int)).toNat) (by omega)
        have hnv:(lowV so)[(z / (10+9 * (0+(j:Int))) % ((lowV so).length:Int)).toNat]?=some (.int (n:Int)):=by unfold lowV;unfold lowV at hn;rw[List.getElem?_map,hn];rfl
        refine⟨_,rfl,_,rfl,_,rfl,_,_,rfl,rfl,.inl ⟨by decide,by decide⟩,_,_,rfl,rfl,_,_,rfl,rfl,dv,_,rfl,SO,_,rfl,.inl (SqL.of (sm3 _ _ hS2)),_,_,rfl,rfl,(by show (0:Int) < ((lowV so).length:Int);omega),SO,_,_,.int (n:Int),rfl,rfl,SqL.of (sm3 _ _ hS2),by rw[<- Int.toNat_of_nonneg y0];exact atI_nat hnv,?_⟩
        refine cstep hj' hm' hC3 ⟨ms++[n],by rw[List.length_append,lms];rfl,fun n' hn'=>?_,?_,same_upd hC sm3,upd_same⟩
        · rcases List.mem_append.mp hn' with h | h
          · exact hms n' h
          · rw[List.mem_singleton.mp h];exact List.mem_of_getElem? hn
        · unfold lowV
          rw[List.map_append]
          rfl
      rintro acc J3 ⟨ms,lms,hms,rfl,sm3,hC3⟩
      have lml:(lowV ms).length=ms.length:=by unfold lowV;rw[List.length_map]
      have lll:(lowV ls).length=ls.length:=by unfold lowV;rw[List.length_map]
      have lm1:ms.length <= 1:=by omega
      refine⟨lw,C,_,_,rfl,rfl,sm3 _ _ hlw2,hC3,fits2 (by omega),fun nw hnw=>?_⟩
      have t4':=same_new hnw (.lst (lowV ls++lowV ms))
      have ec:lowV ls++lowV ms=lowV (ls++ms):=by unfold lowV;rw[List.map_append]
      refine⟨ls++ms,nw,_,_,rfl,sm2.trans (sm3.trans t4'),by rw[<- ec];exact upd_same,by rw[List.length_append];omega,fun el k n hk=>?_⟩
      rw[List.length_append] at el
      have ej:ls.length=j:=by omega
      by_cases hkl:k < ls.length
      · rw[List.getElem?_append_left hkl] at hk
        exact lop ej k n hk
      · rw[List.getElem?_append_right (by omega)] at hk
        have:=lt_of_some hk
        rw[show k=j by omega]
        exact so_ok n (hms n (List.mem_of_getElem? hk))
    rintro σ J ⟨ls,lw,y14,y15,rfl,smJ,hlw,lls,lop⟩
    have lll:(lowV ls).length=ls.length:=by unfold lowV;rw[List.length_map]
    refine⟨_,rfl,lw,_,rfl,.inl (SqL.of hlw),_,rfl,fa,_,2,.ref fb,rfl,rfl,SqT.of (smJ _ _ hfa),rfl,fb,_,rfl,.inr (SqT.of (smJ _ _ hfb)),rfl,_,rfl,iteDd (fun he=>?_) (fun he=>?_)⟩
    · have hel:ls.length=f.br.length:=by
        have h1:((lowV ls).length:Int)=((f.br.map V.str).length:Int):=by injection he
        omega
      have lop':=lop (by omega)
      refine⟨_,rfl,_,rfl,_,rfl,_,rfl,lw,_,rfl,.inl ⟨SqL.of hlw,fun tl htl=>?_⟩⟩
      have t5:=same_new htl (.tup (lowV ls))
      have sm5:=smJ.trans t5
      refine⟨gp,sa,L,tl,_,_,sus,us,sg,f,rs,ls,rfl,sm5 _ _ hg',sm5 _ _ hsa',hsg'.imp fun _ _ h=>SgIs.same (sameT sm5) h,FmIs.same (sameT sm5) hfv0,fp,sm5 _ _ hL',hrs.imp fun _ _ h=>RwIs.same sm5 h,by omega,upd_same,by omega,fun k n hk=>?_,fun rs' us' J' kJ hLJ hrJ hor hne=>?_⟩
      · obtain⟨r,h1,h2⟩:=lop' k n hk
        rw[rcAt_of h1]
        exact⟨lt_of_some h1,fit_of h2 (rg r (List.mem_of_getElem? h1))⟩
      have kF:Kp [L] H9 J':=(kp.same sm5).trans kJ
      rcases hor with rfl | ⟨rc,rfl,grc⟩
      · refine⟨rs',us',_,_,_,_,_,_,_,rfl,kF,hLJ,hrJ,ok,rg,by omega,fun _=>?_⟩
        by_cases hi0:0 < i
        · exact ne hi0
        · have i0:i=0:=by omega
          obtain⟨l1',l2'⟩:=lf i0
          have r0:rs'=[]:=List.eq_nil_of_length_eq_zero (by omega)
          exact hne r0 (List.eq_nil_of_length_eq_zero (by rw[hel,l2'];rfl)) l1'
      · exact⟨_,us',_,_,_,_,_,_,_,rfl,kF,hLJ,hrJ,ok.snoc (by omega) (by show ls.length <= 3;omega) (fun n hn=>by
          obtain⟨k,hk⟩:=List.getElem?_of_mem hn
          obtain⟨r,h1,_⟩:=lop' k n hk
          exact lt_of_some h1),rg.snoc grc,by rw[List.length_append];show rs.length+1 <= i+1;omega,fun _ z=>by simp at z⟩
    · refine⟨rs,us,_,_,_,_,_,_,_,rfl,kp.same smJ,smJ _ _ hL',hrs.imp fun _ _ h=>RwIs.same smJ h,ok,rg,by omega,fun _=>?_⟩
      by_cases hi0:0 < i
      · exact ne hi0
      · have i0:i=0:=by omega
        obtain⟨l1',l2'⟩:=lf i0
        refine absurd ?_ he
        have:ls.length=0:=by rw[l2'] at lls;simpa using lls
        rw[lll,this,l2']
        rfl
  rintro σ H' ⟨rs,us,x2,x6,x7,x12,x13,x14,x15,rfl,kp,hL',hrs,ok,rg,lr,ne⟩
  have TT:SameT H9 H':=kp.T fun x hx=>by rw[List.mem_singleton.mp hx];exact⟨_,hL9⟩
  refine⟨_,rfl,_,rfl,(by show 2 <= sizeLine;decide),fun l hl=>?_⟩
  have t6:=same_new hl (.lst [.ref gp,.ref L])
  have sF:Same H H':=Same.kp (fun x hx=>by rw[List.mem_singleton.mp hx];exact fL) s9 kp
  have l1:1 <= rs.length:=by
    have h1:=lt_of_some z0
    have h2:=ne (by rw[lzv];exact h1)
    cases rs with
    | nil=>exact absurd rfl h2
    | cons r rs=>exact Nat.succ_le_succ (Nat.zero_le _)
  exact q l L _ us rs _ (sF.trans t6) upd_same (t6 _ _ hL') (hrs.imp fun _ _ h=>RwIs.same t6 h) ok l1
end
end K35
namespace K35
open PySem L2 TR SP
open TM
def TwG (Nm:Str->Prop) (o t:Str) (i:Nat) (f:Fm):Prop:=(f.hd=o\/f.hd=t)/\f.ru.length <= 4/\((i=0/\f.br=[]/\∀ r ∈ f.ru,r.k=0/\Nm r.nm/\named r.tm=[]/\depth r.tm <= 3/\parts r.tm <= 5)\/(0 < i/\(f.br=[o]\/f.br=[t])/\∀ r ∈ f.ru,RuP Nm 3 5 r))
def TwS (B:Hp) (FF:Addr) (Nm:Str->Prop) (o t:Str) (k:Nat) (fvs:List V) (H':Hp):Prop:=Same B H'/\H' FF=some (.lst fvs)/\∃ fs,L2R (FmIs H') fs fvs/\fs.length=k/\∀ (i:Nat) f,fs[i]?=some f->TwG Nm o t i f
theorem TwS.fit {B:Hp} {FF:Addr} {Nm:Str->Prop} {o t:Str} {k:Nat} {fvs:List V} {H':Hp} (h:TwS B FF Nm o t k fvs H') (hk:k <= 1000):fvs.length < sizeLine:=by
  obtain⟨_,_,fs,r,l,_⟩:=h
  rw[r.len,l]
  exact fitsL (by omega)
theorem TwS.next {B:Hp} {FF:Addr} {Nm:Str->Prop} {o t:Str} {k:Nat} {fvs:List V} {H' G:Hp} {f:Fm} {v:V} (hFF:B FF=none) (h:TwS B FF Nm o t k fvs H') (s:Same H' G) (hf:FmIs G f v) (g:TwG Nm o t k f):TwS B FF Nm o t (k+1) (fvs++[v]) (upd G FF (.lst (fvs++[v]))):=by
  obtain⟨sB,hF,fs,r,l,gf⟩:=h
  have TL:SameT G (upd G FF (.lst (fvs++[v]))):=sameT_lst (s _ _ hF)
  refine⟨same_upd hFF (sB.trans s),upd_same,fs++[f],(r.imp fun _ _ h=>FmIs.same ((sameT s).trans TL) h).snoc (FmIs.same TL hf),by rw[List.length_append,l];rfl,fun i f' hi=>?_⟩
  by_cases hlt:i < fs.length
  · rw[List.getElem?_append_left hlt] at hi
    exact gf i f' hi
  · rw[List.getElem?_append_right (by omega)] at hi
    have h0:i - fs.length=0:=by
      have:=lt_of_some hi
      simp at this
      omega
    rw[h0] at hi
    cases hi
    rw[show i=k by omega]
    exact g
theorem tw_va {o t:Str} {dn up:List (Str × Str)} {f:Fm} {k:Nat} {p:Pr} {x:Str} (hx:(f.hd::f.br)[k]?=some x) (xo:x=o\/x=t) (hp:p.1=(k:Int)) (hn:∃ q ∈ dn++up,p.2=q.1):Va [⟨o,dn,up⟩,⟨t,dn,up⟩] f p:=by
  obtain⟨q,hq,e⟩:=hn
  rcases xo with rfl | rfl
  · exact⟨k,x,⟨x,dn,up⟩,q,hx,by simp,rfl,hp,hq,e⟩
  · exact⟨k,x,⟨x,dn,up⟩,q,hx,by simp,rfl,hp,hq,e⟩
theorem tw_np {Nm:Str->Prop} {o t:Str} {dn up:List (Str × Str)} {f:Fm} (hd:f.hd=o\/f.hd=t) (br:f.br=[o]\/f.br=[t]) (nm:∀ n,Nm n->∃ q ∈ dn++up,n=q.1) {p:Pr} (h:NP Nm p):Va [⟨o,dn,up⟩,⟨t,dn,up⟩] f p:=by
  obtain⟨h1,h2⟩:=h
  rcases h1 with h1 | h1
  · exact tw_va (k:=0) rfl hd h1 (nm _ h2)
  · rcases br with br | br
    · exact tw_va (k:=1) (x:=o) (by rw[br];rfl) (.inl rfl) h1 (nm _ h2)
    · exact tw_va (k:=1) (x:=t) (by rw[br];rfl) (.inr rfl) h1 (nm _ h2)
theorem twP {Nm:Str->Prop} {o t:Str} {dn up:List (Str × Str)} {f:Fm} {i:Nat} (g:TwG Nm o t i f) (g1:SgG ⟨o,dn,up⟩) (g2:SgG ⟨t,dn,up⟩) (nm:∀ n,Nm n->∃ q ∈ dn++up,n=q.1):FmP [⟨o,dn,up⟩,⟨t,dn,up⟩] f:=by
  obtain⟨hd,l4,g⟩:=g
  refine⟨fun s hs=>?_,(by decide:2 <= 6),?_,fun r hr=>?_,by omega,?_⟩
  · rcases List.mem_cons.mp hs with rfl | hs
    · exact g1
    · rw[List.mem_singleton.mp hs];exact g2
  · rcases g with ⟨_,h,_⟩ | ⟨_,h | h,_⟩
    · rw[h];exact Nat.zero_le 3
    · rw[h];exact (by decide:1 <= 3)
    · rw[h];exact (by decide:1 <= 3)
  · rcases g with ⟨_,h,hru⟩ | ⟨_,h,hru⟩
    · obtain⟨a1,a2,a3,a4,a5⟩:=hru r hr
      exact⟨tw_va (k:=0) rfl hd a1 (nm _ a2),(fun p hp=>by rw[a3] at hp;exact nomatch hp),by omega,by omega⟩
    · obtain⟨a1,a2,a4,a5⟩:=hru r hr
      exact⟨tw_np hd h nm a1,fun p hp=>tw_np hd h nm (a2 p hp),by omega,by omega⟩
  · rcases hd with h | h
    · exact⟨_,List.mem_cons_self,h.symm⟩
    · exact⟨⟨t,dn,up⟩,by simp,h.symm⟩
def spTower:Sp:=fun vs H Q _=>∃ (c:Addr) (cs:List Int),vs=[.ref c]/\H c=some (.lst (cs.map V.int))/\cs.length <= 63/\CaseQ H Q
noncomputable def twL:List Int:=[0,1,2,1,3,1,2,1,4,2,1,2,5,2,1,3,6,7,8,7,9]
theorem twL_ok:∀ z ∈ twL,0 <= z/\z <= 9:=by decide
section
variable {P:Program} {w:World} {K:PySem.W.Frag} {mg:Str->Option Value} {base:Heap} {T:Adr}
theorem ok_tower (X:Tx K mg T):FnOk P w K mg base CX0 16 T.qtower T.d_qtower ["_law_cells"] spTower:=by
  have G_qword:=(ok_word (P:=P) (w:=w) (base:=base) X).mono (show 1 <= 15 by decide)
  have G_qstep:=(ok_step (P:=P) (w:=w) (base:=base) X).mono (show 2 <= 15 by decide)
  have G_qput:=ok_put (P:=P) (w:=w) (base:=base) X
  refine X.F_qtower.okQ sc_qtower (fun vs H Q E h=>?_) (fun cdv A outer s H vs Q E hr h=>?_)
  · obtain⟨_,_,rfl,_⟩:=h
    rfl
  obtain⟨c,cs,rfl,hc,l63,q⟩:=h
  refine⟨_,(qss_cons (qs_set (i:=1) sc_qtower.nd rfl (Or.inr rfl) (qe_op op_mod (qe_callB (call_sum rfl) rfl X.z_sum PyProof.Rows.boot_sum (qaN (qv 0) qa_nil)) qe_int)) (qss_cons (qs_asg (qe_comp (ys:=["_law_word_here"]) (js:=[1]) rfl rfl (qi_range1 rfl X.z_range (qaC qe_int qa_nil)) (fun _ _ _ _ _=>qif_nil) (fun _ _ _ _ _=>(qe_call G_qword hr rfl X.m_qword X.F_qword.kp X.b_qword .nil pass0 (qaB (qe_op op_fdiv (qv 1) qe_int) (qaN (qv 0) qa_nil))))) (qg_lst rfl (qgs_cons (qg_name (i:=2) sc_qtower.nd rfl (Or.inl rfl)) (qgs_cons (qg_name (i:=3) sc_qtower.nd rfl (Or.inl rfl)) (qgs_cons (qg_name (i:=4) sc_qtower.nd rfl (Or.inr rfl)) (qgs_cons (qg_name (i:=5) sc_qtower.nd rfl (Or.inr rfl)) qgs_nil)))))) (qss_cons (qs_set (i:=6) sc_qtower.nd rfl (Or.inr rfl) (qe_tup (qaT (qe_tup (qaN (qv 2) (qaC qe_str qa_nil))) (qaT (qe_tup (qaN (qv 3) (qaC qe_str qa_nil))) qa_nil)))) (qss_cons (qs_setC (ys:=["_law_word_here", "_law_u", "_law_v", "_law_own"]) (js:=[1,4,5,6]) rfl rfl (qi_range1 rfl X.z_range (qaC qe_int qa_nil)) (fun _ _ _ _ _=>qif_nil) (fun _ _ _ _ _=>(qe_tup (qaK (qe_call G_qword hr rfl X.m_qword X.F_qword.kp X.b_qword .nil pass0 (qaB (qe_op op_fdiv (qv 1) qe_int) (qaN (qv 0) qa_nil))) (qaN (qv 4) (qaT (qe_tup (qaT (qe_tup (qaN (qv 2) (qaC qe_str qa_nil))) (qaT (qe_tup (qaN (qv 3) (qaC qe_str qa_nil))) qa_nil))) qa_nil))))) (qg_name (i:=7) sc_qtower.nd rfl (Or.inl rfl)) rfl) (qss_cons (qs_set (i:=8) sc_qtower.nd rfl (Or.inl rfl) (qe_lst (qaT (qe_tup (qaC qe_int (qaL (qe_lst (qaN (qv 4) (qaN (qv 4) qa_nil))) qa_nil))) (qaT (qe_tup (qaC qe_int (qaL (qe_lst (qaN (qv 5) (qaN (qv 5) qa_nil))) qa_nil))) (qaT (qe_tup (qaC qe_int (qaL (qe_lst (qaN (qv 2) (qaN (qv 2) qa_nil))) qa_nil))) (qaT (qe_tup (qaC qe_int (qaL (qe_lst (qaN (qv 3) (qaN (qv 3) qa_nil))) qa_nil))) qa_nil)))))) (qss_cons (qs_set (i:=9) sc_qtower.nd rfl (Or.inl rfl) (qe_lst (qaT (qe_tup (qaC qe_int (qaL (qe_lst (qaN (qv 4) (qaN (qv 4) qa_nil))) qa_nil))) (qaT (qe_tup (qaC qe_int (qaL (qe_lst (qaN (qv 5) (qaN (qv 5) qa_nil))) qa_nil))) (qaT (qe_tup (qaC qe_int (qaL (qe_lst (qaN (qv 2) (qaN (qv 3) qa_nil))) qa_nil))) (qaT (qe_tup (qaC qe_int (qaL (qe_lst (qaN (qv 3) (qaN (qv 2) qa_nil))) qa_nil))) qa_nil)))))) (qss_cons (qs_set (i:=10) sc_qtower.nd rfl (Or.inl rfl) (qe_lst (qaT (qe_tup (qaC qe_int (qaL (qe_lst (qaN (qv 4) (qaN (qv 5) qa_nil))) qa_nil))) (qaT (qe_tup (qaC qe_int (qaL (qe_lst (qaN (qv 5) (qaN (qv 4) qa_nil))) qa_nil))) (qaT (qe_tup (qaC qe_int (qaL (qe_lst (qaN (qv 2) (qaN (qv 2) qa_nil))) qa_nil))) (qaT (qe_tup (qaC qe_int (qaL (qe_lst (qaN (qv 3) (qaN (qv 3) qa_nil))) qa_nil))) qa_nil)))))) (qss_cons (qs_set (i:=11) sc_qtower.nd rfl (Or.inl rfl) (qe_lst (qaT (qe_tup (qaC qe_int (qaL (qe_lst (qaN (qv 4) qa_nil)) qa_nil))) (qaT (qe_tup (qaC qe_int (qaL (qe_lst (qaN (qv 5) qa_nil)) qa_nil))) (qaT (qe_tup (qaC qe_int (qaL (qe_lst (qaN (qv 2) (qaN (qv 2) qa_nil))) qa_nil))) (qaT (qe_tup (qaC qe_int (qaL (qe_lst (qaN (qv 3) (qaN (qv 3) qa_nil))) qa_nil))) qa_nil)))))) (qss_cons (qs_set (i:=12) sc_qtower.nd rfl (Or.inl rfl) (qe_ix ix_tup (qe_ix ix_list (qv 7) qe_int (fun _ _=>rfl)) qe_int (fun _ _=>rfl))) (qss_cons (qs_set (i:=13) sc_qtower.nd rfl (Or.inl rfl) (qe_ix ix_tup (qe_ix ix_list (qv 7) qe_int (fun _ _=>rfl)) qe_int (fun _ _=>rfl))) (qss_cons (qs_set (i:=14) sc_qtower.nd rfl (Or.inl rfl) (qe_lst (qaT (qe_tup (qaK (qe_call G_qword hr rfl X.m_qword X.F_qword.kp X.b_qword .nil pass0 (qaN (qv 1) (qaC qe_int qa_nil))) (qaN (qv 12) (qaT (qe_tup qa_nil) (qaT (qe_tup (qaT (qe_tup (qaC qe_int (qaN (qv 4) (qaT (qe_tup (qaC qe_str (qaC qe_int qa_nil))) qa_nil)))) (qaT (qe_tup (qaC qe_int (qaN (qv 5) (qaT (qe_tup (qaC qe_str qa_nil)) qa_nil)))) qa_nil))) qa_nil))))) qa_nil))) (qss_cons (qs_expr (qe_bm PySem.F.plainAttrs_list PySem.F.slot_list_append PySem.F.type_list_append mt_append (qv 14) (qaK (qe_call G_qstep hr rfl X.m_qstep X.F_qstep.kp X.b_qstep .nil pass0 (qaN (qv 1) (qaC qe_int (qaN (qv 12) (qaT (qe_tup (qaN (qv 12) qa_nil)) (qaN (qv 8) (qaC qe_bl qa_nil))))))) qa_nil))) (qss_cons (qs_expr (qe_bm PySem.F.plainAttrs_list PySem.F.slot_list_append PySem.F.type_list_append mt_append (qv 14) (qaK (qe_call G_qstep hr rfl X.m_qstep X.F_qstep.kp X.b_qstep .nil pass0 (qaN (qv 1) (qaC qe_int (qaN (qv 12) (qaT (qe_tup (qaN (qv 12) qa_nil)) (qaN (qv 9) (qaC qe_bl qa_nil))))))) qa_nil))) (qss_cons (qs_expr (qe_bm PySem.F.plainAttrs_list PySem.F.slot_list_append PySem.F.type_list_append mt_append (qv 14) (qaK (qe_call G_qstep hr rfl X.m_qstep X.F_qstep.kp X.b_qstep .nil pass0 (qaN (qv 1) (qaC qe_int (qaN (qv 12) (qaT (qe_tup (qaN (qv 12) qa_nil)) (qaN (qv 10) (qaC qe_bl qa_nil))))))) qa_nil))) (qss_cons (qs_expr (qe_bm PySem.F.plainAttrs_list PySem.F.slot_list_append PySem.F.type_list_append mt_append (qv 14) (qaK (qe_call G_qstep hr rfl X.m_qstep X.F_qstep.kp X.b_qstep .nil pass0 (qaN (qv 1) (qaC qe_int (qaN (qv 12) (qaT (qe_tup (qaN (qv 12) qa_nil)) (qaB (qe_op op_cat (qe_slice sl_list (qv 8) qo_none (qo_some qe_int)) (qe_lst (qaT (qe_tup (qaC qe_int (qaL (qe_lst (qaN (qv 3) qa_nil)) qa_nil))) qa_nil))) (qaC qe_bl qa_nil))))))) qa_nil))) (qss_cons (qs_expr (qe_bm PySem.F.plainAttrs_list PySem.F.slot_list_append PySem.F.type_list_append mt_append (qv 14) (qaK (qe_call G_qstep hr rfl X.m_qstep X.F_qstep.kp X.b_qstep .nil pass0 (qaN (qv 1) (qaC qe_int (qaN (qv 12) (qaT (qe_tup (qaN (qv 12) qa_nil)) (qaB (qe_op op_cat (qe_lst (qaT (qe_tup (qaC qe_int (qaL (qe_lst (qaN (qv 4) qa_nil)) qa_nil))) qa_nil)) (qe_slice sl_list (qv 8) (qo_some qe_int) qo_none)) (qaC qe_bl qa_nil))))))) qa_nil))) (qss_cons (qs_expr (qe_bm PySem.F.plainAttrs_list PySem.F.slot_list_append PySem.F.type_list_append mt_append (qv 14) (qaK (qe_call G_qstep hr rfl X.m_qstep X.F_qstep.kp X.b_qstep .nil pass0 (qaN (qv 1) (qaC qe_int (qaN (qv 13) (qaT (qe_tup (qaN (qv 12) qa_nil)) (qaN (qv 11) (qaC qe_bl qa_nil))))))) qa_nil))) (qss_cons (qs_expr (qe_bm PySem.F.plainAttrs_list PySem.F.slot_list_append PySem.F.type_list_append mt_append (qv 14) (qaK (qe_call G_qstep hr rfl X.m_qstep X.F_qstep.kp X.b_qstep .nil pass0 (qaN (qv 1) (qaC qe_int (qaN (qv 13) (qaT (qe_tup (qaN (qv 13) qa_nil)) (qaN (qv 8) (qaC qe_bl qa_nil))))))) qa_nil))) (qss_cons (qs_expr (qe_bm PySem.F.plainAttrs_list PySem.F.slot_list_append PySem.F.type_list_append mt_append (qv 14) (qaK (qe_call G_qstep hr rfl X.m_qstep X.F_qstep.kp X.b_qstep .nil pass0 (qaN (qv 1) (qaC qe_int (qaN (qv 13) (qaT (qe_tup (qaN (qv 13) qa_nil)) (qaN (qv 9) (qaC qe_bl qa_nil))))))) qa_nil))) (qss_cons (qs_expr (qe_bm PySem.F.plainAttrs_list PySem.F.slot_list_append PySem.F.type_list_append mt_append (qv 14) (qaK (qe_call G_qstep hr rfl X.m_qstep X.F_qstep.kp X.b_qstep .nil pass0 (qaN (qv 1) (qaC qe_int (qaN (qv 13) (qaT (qe_tup (qaN (qv 13) qa_nil)) (qaN (qv 10) (qaC qe_bl qa_nil))))))) qa_nil))) (qss_cons (qs_set (i:=15) sc_qtower.nd rfl (Or.inl rfl) (qe_tup (qaK (qe_callTy call_tuple_of rfl X.z_tuple PyProof.Rows.boot_tuple (qaN (qv 7) qa_nil)) (qaK (qe_callTy call_tuple_of rfl X.z_tuple PyProof.Rows.boot_tuple (qaN (qv 14) qa_nil)) qa_nil)))) (qss_cons (qs_set (i:=16) sc_qtower.nd rfl (Or.inl rfl) (qe_lst qa_nil)) (qss_cons (qs_for PassesOwn.never rfl (qi_list (qe_lst (qaC qe_int (qaC qe_int (qaC qe_int (qaC qe_int (qaC qe_int (qaC qe_int (qaC qe_int (qaC qe_int (qaC qe_int (qaC qe_int (qaC qe_int (qaC qe_int (qaC qe_int (qaC qe_int (qaC qe_int (qaC qe_int (qaC qe_int (qaC qe_int (qaC qe_int (qaC qe_int (qaC qe_int qa_nil))))))))))))))))))))))) (qg_name (i:=17) sc_qtower.nd rfl (Or.inl rfl)) (qss_one (qs_expr (qe_call G_qput hr rfl X.m_qput X.F_qput.kp X.b_qput .nil pass0 (qaN (qv 15) (qaN (qv 16) (qaS (qe_ix ix_list (qv 14) (qv 17) (fun _ _=>rfl)) (qaK (qe_callTy call_tuple_of rfl X.z_tuple PyProof.Rows.boot_tuple (qaB (qe_op op_rep (qe_lst (qaB (qe_op op_sub (qe_callB call_len_seq rfl X.z_len PySem.boot_len (qaN (qv 16) qa_nil)) qe_int) qa_nil)) (qe_callB call_len_seq rfl X.z_len PySem.boot_len (qaS (qe_ix ix_tup (qe_ix ix_list (qv 14) (qv 17) (fun _ _=>rfl)) qe_int (fun _ _=>rfl)) qa_nil))) qa_nil)) qa_nil)))))))) (qss_one (qs_ret (qe_lst (qaN (qv 15) (qaN (qv 16) qa_nil)))))))))))))))))))))))))))),?_⟩
  dsimp only[cxOf]
  refine⟨_,rfl,c,cs,rfl,SqL.of hc,_,_,rfl,rfl,(by show (0:Int) < 999999937;decide),?_⟩
  dsimp only
  generalize cs.sum % 999999937=wh
  refine⟨_,rfl,by decide,by decide,fun D hD=>?_⟩
  refine comp_rng (n:=4) (fun j acc J=>Same H J/\J D=some (.lst acc)/\acc=(List.range j).map fun (k:Nat)=>V.str (wrd (wh / 7) (k:Int))) (fitsL (by decide)) ⟨same_new hD _,upd_same,rfl⟩ (fun j acc J ⟨_,d,e⟩=>⟨d,by rw[e,List.length_map,List.length_range]⟩) ?_ ?_
  · rintro j m' acc J hj ⟨smJ,hDJ,rfl⟩ hm'
    refine⟨_,rfl,_,_,rfl,rfl,⟨by decide,by decide⟩,_,rfl,wh / 7,_,rfl,?_⟩
    refine cstep hj hm' hDJ ⟨same_upd hD smJ,upd_same,?_⟩
    rw[List.range_succ,List.map_append,show (0+(j:Int))=(j:Int) by omega]
    rfl
  rintro acc B0 ⟨s0,hD0,rfl⟩
  have nd:∀ p ∈ [(wrd (wh / 7) 0,("num" : Str)),(wrd (wh / 7) 1, "num")],∀ q ∈ [(wrd (wh / 7) 2,("num" : Str)),(wrd (wh / 7) 3, "num")],p.1 ≠ q.1:=by
    have nd:=pairs_nd (c:=wh / 7) (dn:=[(wrd (wh / 7) 0,("num" : Str)),(wrd (wh / 7) 1, "num")]) (up:=[(wrd (wh / 7) 2,("num" : Str)),(wrd (wh / 7) 3, "num")]) (fun j p h=>by
      match j,h with
      | 0,h=>cases h;rfl
      | 1,h=>cases h;rfl
      | j+2,h=>simp at h) (fun j p h=>by
      match j,h with
      | 0,h=>cases h;rfl
      | 1,h=>cases h;rfl
      | j+2,h=>simp at h) (Nat.le_refl 2) (Nat.le_refl 2)
    rw[List.map_append] at nd
    exact fun p hp q hq=>(List.nodup_append.mp nd).2.2 _ (List.mem_map.mpr ⟨p,hp,rfl⟩) _ (List.mem_map.mpr ⟨q,hq,rfl⟩)
  rw[show ((List.range 4).map fun (k:Nat)=>V.str (wrd (wh / 7) (k:Int)))=[V.str (wrd (wh / 7) 0),V.str (wrd (wh / 7) 1),V.str (wrd (wh / 7) 2),V.str (wrd (wh / 7) 3)] from rfl] at hD0
  refine⟨D,_,rfl,SqL.of hD0,rfl,?_⟩
  generalize wrd (wh / 7) 0=a,wrd (wh / 7) 1=b,wrd (wh / 7) 2=u,wrd (wh / 7) 3=v at nd ⊢
  clear hD0
  refine⟨_,_,rfl,_,_,rfl,_,_,rfl,_,_,rfl,rfl,?_⟩
  refine⟨_,rfl,(by show 2 <= sizeLine;decide),fun o1 ho1=>⟨_,rfl,(by show 2 <= sizeLine;decide),fun o2 ho2=>⟨(by show 2 <= sizeLine;decide),fun O hO=>?_⟩⟩⟩
  have z1:=same_new ho1 (.tup [.str a,.str "num"])
  have z2:=same_new ho2 (.tup [.str b,.str "num"])
  have z3:=same_new hO (.tup [.ref o1,.ref o2])
  have hO':=upd_same (H:=upd (upd B0 o1 (.tup [.str a,.str "num"])) o2 (.tup [.str b,.str "num"])) (a:=O) (o:=.tup [.ref o1,.ref o2])
  have hdn:L2R (PrIs (upd (upd (upd B0 o1 (.tup [.str a,.str "num"])) o2 (.tup [.str b,.str "num"])) O (.tup [.ref o1,.ref o2]))) [(a, "num"),(b, "num")] [.ref o1,.ref o2]:=.cons ⟨o1,rfl,(z2.trans z3) _ _ upd_same⟩ (.cons ⟨o2,rfl,z3 _ _ upd_same⟩ .nil)
  have s1:=s0.trans (z1.trans (z2.trans z3))
  generalize upd (upd (upd B0 o1 (.tup [.str a,.str "num"])) o2 (.tup [.str b,.str "num"])) O (.tup [.ref o1,.ref o2])=A1 at hO' hdn s1 ⊢
  clear z1 z2 z3 s0 ho1 ho2
  refine⟨_,rfl,by decide,by decide,fun SG hSG=>?_⟩
  refine comp_rng (n:=2) (fun j acc J=>Same A1 J/\J SG=some (.lst acc)/\L2R (SgIs J) ((List.range j).map fun (k:Nat)=>(⟨wrd (wh / 5) (k:Int),[(a, "num"),(b, "num")],[(u, "num"),(v, "num")]⟩ : Sg)) acc) (fitsL (by decide)) ⟨same_new hSG _,upd_same,.nil⟩ (fun j acc J ⟨_,d,r⟩=>⟨d,by rw[r.len,List.length_map,List.length_range]⟩) ?_ ?_
  · rintro j m' acc J hj ⟨smJ,hSJ,rJ⟩ hm'
    refine⟨_,rfl,_,_,rfl,rfl,⟨by decide,by decide⟩,_,rfl,wh / 5,_,rfl,_,rfl,_,rfl,(by show 2 <= sizeLine;decide),fun p1 hp1=>⟨_,rfl,(by show 2 <= sizeLine;decide),fun p2 hp2=>⟨(by show 2 <= sizeLine;decide),fun p3 hp3=>⟨(by show 3 <= sizeLine;decide),fun p4 hp4=>?_⟩⟩⟩⟩
    have z1:=same_new hp1 (.tup [.str u,.str "num"])
    have z2:=same_new hp2 (.tup [.str v,.str "num"])
    have z3:=same_new hp3 (.tup [.ref p1,.ref p2])
    have z4:=same_new hp4 (.tup [.str (wrd (wh / 5) (0+(j:Int))),.ref O,.ref p3])
    have zA:=z1.trans (z2.trans (z3.trans z4))
    have h4:=upd_same (H:=upd (upd (upd J p1 (.tup [.str u,.str "num"])) p2 (.tup [.str v,.str "num"])) p3 (.tup [.ref p1,.ref p2])) (a:=p4) (o:=.tup [.str (wrd (wh / 5) (0+(j:Int))),.ref O,.ref p3])
    have h3:=z4 _ _ (upd_same (H:=upd (upd J p1 (.tup [.str u,.str "num"])) p2 (.tup [.str v,.str "num"])) (a:=p3) (o:=.tup [.ref p1,.ref p2]))
    have h2:=(z3.trans z4) _ _ (upd_same (H:=upd J p1 (.tup [.str u,.str "num"])) (a:=p2) (o:=.tup [.str v,.str "num"]))
    have h1:=(z2.trans (z3.trans z4)) _ _ (upd_same (H:=J) (a:=p1) (o:=.tup [.str u,.str "num"]))
    have hSG':=zA _ _ hSJ
    generalize upd (upd (upd (upd J p1 (.tup [.str u,.str "num"])) p2 (.tup [.str v,.str "num"])) p3 (.tup [.ref p1,.ref p2])) p4 (.tup [.str (wrd (wh / 5) (0+(j:Int))),.ref O,.ref p3])=J' at zA h1 h2 h3 h4 hSG' ⊢
    have TL:SameT J' (upd J' SG (.lst (acc++[.ref p4]))):=sameT_lst hSG'
    refine cstep hj hm' hSG' ⟨same_upd hSG (smJ.trans zA),upd_same,?_⟩
    rw[List.range_succ,List.map_append]
    refine (rJ.imp fun _ _ h=>SgIs.same ((sameT zA).trans TL) h).snoc ⟨p4,O,p3,_,_,rfl,TL _ _ (by rw[h4,show (0+(j:Int))=(j:Int) by omega]),TL _ _ (zA _ _ (smJ _ _ hO')),hdn.imp fun _ _ h=>PrIs.same ((sameT (smJ.trans zA)).trans TL) h,TL _ _ h3,.cons ⟨p1,rfl,TL _ _ h1⟩ (.cons ⟨p2,rfl,TL _ _ h2⟩ .nil)⟩
  rintro sgv B1 ⟨s2,hSG1,rS⟩
  have s3:=s1.trans s2
  clear s1 s2 hO' hdn hSG
  change L2R (SgIs B1) [(⟨wrd (wh / 5) 0,[(a, "num"),(b, "num")],[(u, "num"),(v, "num")]⟩ : Sg),⟨wrd (wh / 5) 1,[(a, "num"),(b, "num")],[(u, "num"),(v, "num")]⟩] sgv at rS
  generalize wrd (wh / 5) 0=o,wrd (wh / 5) 1=t at rS
  have g1:∀ x:Str,SgG ⟨x,[(a, "num"),(b, "num")],[(u, "num"),(v, "num")]⟩:=fun x=>⟨Nat.le_refl 2,Nat.le_refl 2,nd,fun p hp=>by
    have:p.2 = "num":=by
      rcases List.mem_cons.mp hp with rfl | hp
      · rfl
      rcases List.mem_cons.mp hp with rfl | hp
      · rfl
      rcases List.mem_cons.mp hp with rfl | hp
      · rfl
      rw[List.mem_singleton.mp hp]
    rw[this]
    decide⟩
  refine⟨_,rfl,_,rfl,(by show 2 <= sizeLine;decide),fun xl0 hxl0=>⟨(by show 2 <= sizeLine;decide),fun xp0 hxp0=>⟨_,rfl,_,rfl,(by show 2 <= sizeLine;decide),fun xl1 hxl1=>⟨(by show 2 <= sizeLine;decide),fun xp1 hxp1=>⟨_,rfl,_,rfl,(by show 2 <= sizeLine;decide),fun xl2 hxl2=>⟨(by show 2 <= sizeLine;decide),fun xp2 hxp2=>⟨_,rfl,_,rfl,(by show 2 <= sizeLine;decide),fun xl3 hxl3=>⟨(by show 2 <= sizeLine;decide),fun xp3 hxp3=>⟨(by show 4 <= sizeLine;decide),fun xS hxS=>?_⟩⟩⟩⟩⟩⟩⟩⟩⟩
  have zx0:=same_new hxl0 (.lst [.str u,.str u])
  have zx1:=same_new hxp0 (.tup [.int 0,.ref xl0])
  have zx2:=same_new hxl1 (.lst [.str v,.str v])
  have zx3:=same_new hxp1 (.tup [.int 0,.ref xl1])
  have zx4:=same_new hxl2 (.lst [.str a,.str a])
  have zx5:=same_new hxp2 (.tup [.int 1,.ref xl2])
  have zx6:=same_new hxl3 (.lst [.str b,.str b])
  have zx7:=same_new hxp3 (.tup [.int 1,.ref xl3])
  have zx8:=same_new hxS (.lst [.ref xp0,.ref xp1,.ref xp2,.ref xp3])
  have ex:(upd (upd (upd (upd (upd (upd (upd (upd (upd B1 xl0 (.lst [.str u,.str u])) xp0 (.tup [.int 0,.ref xl0])) xl1 (.lst [.str v,.str v])) xp1 (.tup [.int 0,.ref xl1])) xl2 (.lst [.str a,.str a])) xp2 (.tup [.int 1,.ref xl2])) xl3 (.lst [.str b,.str b])) xp3 (.tup [.int 1,.ref xl3])) xS (.lst [.ref xp0,.ref xp1,.ref xp2,.ref xp3])) xS=some (.lst [.ref xp0,.ref xp1,.ref xp2,.ref xp3]):=upd_same
  have gx:L2R (TuIs (upd (upd (upd (upd (upd (upd (upd (upd (upd B1 xl0 (.lst [.str u,.str u])) xp0 (.tup [.int 0,.ref xl0])) xl1 (.lst [.str v,.str v])) xp1 (.tup [.int 0,.ref xl1])) xl2 (.lst [.str a,.str a])) xp2 (.tup [.int 1,.ref xl2])) xl3 (.lst [.str b,.str b])) xp3 (.tup [.int 1,.ref xl3])) xS (.lst [.ref xp0,.ref xp1,.ref xp2,.ref xp3]))) [((0:Int),[u,u]),((0:Int),[v,v]),((1:Int),[a,a]),((1:Int),[b,b])] [V.ref xp0,.ref xp1,.ref xp2,.ref xp3]:=(.cons ⟨xp0,xl0,rfl,(zx2.trans (zx3.trans (zx4.trans (zx5.trans (zx6.trans (zx7.trans zx8)))))) _ _ upd_same,(zx1.trans (zx2.trans (zx3.trans (zx4.trans (zx5.trans (zx6.trans (zx7.trans zx8))))))) _ _ upd_same⟩ (.cons ⟨xp1,xl1,rfl,(zx4.trans (zx5.trans (zx6.trans (zx7.trans zx8)))) _ _ upd_same,(zx3.trans (zx4.trans (zx5.trans (zx6.trans (zx7.trans zx8))))) _ _ upd_same⟩ (.cons ⟨xp2,xl2,rfl,(zx6.trans (zx7.trans zx8)) _ _ upd_same,(zx5.trans (zx6.trans (zx7.trans zx8))) _ _ upd_same⟩ (.cons ⟨xp3,xl3,rfl,zx8 _ _ upd_same,(zx7.trans zx8) _ _ upd_same⟩ .nil))))
  have sx:Same B1 (upd (upd (upd (upd (upd (upd (upd (upd (upd B1 xl0 (.lst [.str u,.str u])) xp0 (.tup [.int 0,.ref xl0])) xl1 (.lst [.str v,.str v])) xp1 (.tup [.int 0,.ref xl1])) xl2 (.lst [.str a,.str a])) xp2 (.tup [.int 1,.ref xl2])) xl3 (.lst [.str b,.str b])) xp3 (.tup [.int 1,.ref xl3])) xS (.lst [.ref xp0,.ref xp1,.ref xp2,.ref xp3])):=(zx0.trans (zx1.trans (zx2.trans (zx3.trans (zx4.trans (zx5.trans (zx6.trans (zx7.trans zx8))))))))
  generalize (upd (upd (upd (upd (upd (upd (upd (upd (upd B1 xl0 (.lst [.str u,.str u])) xp0 (.tup [.int 0,.ref xl0])) xl1 (.lst [.str v,.str v])) xp1 (.tup [.int 0,.ref xl1])) xl2 (.lst [.str a,.str a])) xp2 (.tup [.int 1,.ref xl2])) xl3 (.lst [.str b,.str b])) xp3 (.tup [.int 1,.ref xl3])) xS (.lst [.ref xp0,.ref xp1,.ref xp2,.ref xp3]))=B2 at ex gx sx ⊢
  clear hxl0 hxp0 hxl1 hxp1 hxl2 hxp2 hxl3 hxp3 hxS zx0 zx1 zx2 zx3 zx4 zx5 zx6 zx7 zx8
  refine⟨_,rfl,_,rfl,(by show 2 <= sizeLine;decide),fun yl0 hyl0=>⟨(by show 2 <= sizeLine;decide),fun yp0 hyp0=>⟨_,rfl,_,rfl,(by show 2 <= sizeLine;decide),fun yl1 hyl1=>⟨(by show 2 <= sizeLine;decide),fun yp1 hyp1=>⟨_,rfl,_,rfl,(by show 2 <= sizeLine;decide),fun yl2 hyl2=>⟨(by show 2 <= sizeLine;decide),fun yp2 hyp2=>⟨_,rfl,_,rfl,(by show 2 <= sizeLine;decide),fun yl3 hyl3=>⟨(by show 2 <= sizeLine;decide),fun yp3 hyp3=>⟨(by show 4 <= sizeLine;decide),fun yS hyS=>?_⟩⟩⟩⟩⟩⟩⟩⟩⟩
  have zy0:=same_new hyl0 (.lst [.str u,.str u])
  have zy1:=same_new hyp0 (.tup [.int 0,.ref yl0])
  have zy2:=same_new hyl1 (.lst [.str v,.str v])
  have zy3:=same_new hyp1 (.tup [.int 0,.ref yl1])
  have zy4:=same_new hyl2 (.lst [.str a,.str b])
  have zy5:=same_new hyp2 (.tup [.int 1,.ref yl2])
  have zy6:=same_new hyl3 (.lst [.str b,.str a])
  have zy7:=same_new hyp3 (.tup [.int 1,.ref yl3])
  have zy8:=same_new hyS (.lst [.ref yp0,.ref yp1,.ref yp2,.ref yp3])
  have ey:(upd (upd (upd (upd (upd (upd (upd (upd (upd B2 yl0 (.lst [.str u,.str u])) yp0 (.tup [.int 0,.ref yl0])) yl1 (.lst [.str v,.str v])) yp1 (.tup [.int 0,.ref yl1])) yl2 (.lst [.str a,.str b])) yp2 (.tup [.int 1,.ref yl2])) yl3 (.lst [.str b,.str a])) yp3 (.tup [.int 1,.ref yl3])) yS (.lst [.ref yp0,.ref yp1,.ref yp2,.ref yp3])) yS=some (.lst [.ref yp0,.ref yp1,.ref yp2,.ref yp3]):=upd_same
  have gy:L2R (TuIs (upd (upd (upd (upd (upd (upd (upd (upd (upd B2 yl0 (.lst [.str u,.str u])) yp0 (.tup [.int 0,.ref yl0])) yl1 (.lst [.str v,.str v])) yp1 (.tup [.int 0,.ref yl1])) yl2 (.lst [.str a,.str b])) yp2 (.tup [.int 1,.ref yl2])) yl3 (.lst [.str b,.str a])) yp3 (.tup [.int 1,.ref yl3])) yS (.lst [.ref yp0,.ref yp1,.ref yp2,.ref yp3]))) [((0:Int),[u,u]),((0:Int),[v,v]),((1:Int),[a,b]),((1:Int),[b,a])] [V.ref yp0,.ref yp1,.ref yp2,.ref yp3]:=(.cons ⟨yp0,yl0,rfl,(zy2.trans (zy3.trans (zy4.trans (zy5.trans (zy6.trans (zy7.trans zy8)))))) _ _ upd_same,(zy1.trans (zy2.trans (zy3.trans (zy4.trans (zy5.trans (zy6.trans (zy7.trans zy8))))))) _ _ upd_same⟩ (.cons ⟨yp1,yl1,rfl,(zy4.trans (zy5.trans (zy6.trans (zy7.trans zy8)))) _ _ upd_same,(zy3.trans (zy4.trans (zy5.trans (zy6.trans (zy7.trans zy8))))) _ _ upd_same⟩ (.cons ⟨yp2,yl2,rfl,(zy6.trans (zy7.trans zy8)) _ _ upd_same,(zy5.trans (zy6.trans (zy7.trans zy8))) _ _ upd_same⟩ (.cons ⟨yp3,yl3,rfl,zy8 _ _ upd_same,(zy7.trans zy8) _ _ upd_same⟩ .nil))))
  have sy:Same B2 (upd (upd (upd (upd (upd (upd (upd (upd (upd B2 yl0 (.lst [.str u,.str u])) yp0 (.tup [.int 0,.ref yl0])) yl1 (.lst [.str v,.str v])) yp1 (.tup [.int 0,.ref yl1])) yl2 (.lst [.str a,.str b])) yp2 (.tup [.int 1,.ref yl2])) yl3 (.lst [.str b,.str a])) yp3 (.tup [.int 1,.ref yl3])) yS (.lst [.ref yp0,.ref yp1,.ref yp2,.ref yp3])):=(zy0.trans (zy1.trans (zy2.trans (zy3.trans (zy4.trans (zy5.trans (zy6.trans (zy7.trans zy8))))))))
  generalize (upd (upd (upd (upd (upd (upd (upd (upd (upd B2 yl0 (.lst [.str u,.str u])) yp0 (.tup [.int 0,.ref yl0])) yl1 (.lst [.str v,.str v])) yp1 (.tup [.int 0,.ref yl1])) yl2 (.lst [.str a,.str b])) yp2 (.tup [.int 1,.ref yl2])) yl3 (.lst [.str b,.str a])) yp3 (.tup [.int 1,.ref yl3])) yS (.lst [.ref yp0,.ref yp1,.ref yp2,.ref yp3]))=B3 at ey gy sy ⊢
  clear hyl0 hyp0 hyl1 hyp1 hyl2 hyp2 hyl3 hyp3 hyS zy0 zy1 zy2 zy3 zy4 zy5 zy6 zy7 zy8
  refine⟨_,rfl,_,rfl,(by show 2 <= sizeLine;decide),fun tl0 htl0=>⟨(by show 2 <= sizeLine;decide),fun tp0 htp0=>⟨_,rfl,_,rfl,(by show 2 <= sizeLine;decide),fun tl1 htl1=>⟨(by show 2 <= sizeLine;decide),fun tp1 htp1=>⟨_,rfl,_,rfl,(by show 2 <= sizeLine;decide),fun tl2 htl2=>⟨(by show 2 <= sizeLine;decide),fun tp2 htp2=>⟨_,rfl,_,rfl,(by show 2 <= sizeLine;decide),fun tl3 htl3=>⟨(by show 2 <= sizeLine;decide),fun tp3 htp3=>⟨(by show 4 <= sizeLine;decide),fun tS htS=>?_⟩⟩⟩⟩⟩⟩⟩⟩⟩
  have zt0:=same_new htl0 (.lst [.str u,.str v])
  have zt1:=same_new htp0 (.tup [.int 0,.ref tl0])
  have zt2:=same_new htl1 (.lst [.str v,.str u])
  have zt3:=same_new htp1 (.tup [.int 0,.ref tl1])
  have zt4:=same_new htl2 (.lst [.str a,.str a])
  have zt5:=same_new htp2 (.tup [.int 1,.ref tl2])
  have zt6:=same_new htl3 (.lst [.str b,.str b])
  have zt7:=same_new htp3 (.tup [.int 1,.ref tl3])
  have zt8:=same_new htS (.lst [.ref tp0,.ref tp1,.ref tp2,.ref tp3])
  have et:(upd (upd (upd (upd (upd (upd (upd (upd (upd B3 tl0 (.lst [.str u,.str v])) tp0 (.tup [.int 0,.ref tl0])) tl1 (.lst [.str v,.str u])) tp1 (.tup [.int 0,.ref tl1])) tl2 (.lst [.str a,.str a])) tp2 (.tup [.int 1,.ref tl2])) tl3 (.lst [.str b,.str b])) tp3 (.tup [.int 1,.ref tl3])) tS (.lst [.ref tp0,.ref tp1,.ref tp2,.ref tp3])) tS=some (.lst [.ref tp0,.ref tp1,.ref tp2,.ref tp3]):=upd_same
  have gt:L2R (TuIs (upd (upd (upd (upd (upd (upd (upd (upd (upd B3 tl0 (.lst [.str u,.str v])) tp0 (.tup [.int 0,.ref tl0])) tl1 (.lst [.str v,.str u])) tp1 (.tup [.int 0,.ref tl1])) tl2 (.lst [.str a,.str a])) tp2 (.tup [.int 1,.ref tl2])) tl3 (.lst [.str b,.str b])) tp3 (.tup [.int 1,.ref tl3])) tS (.lst [.ref tp0,.ref tp1,.ref tp2,.ref tp3]))) [((0:Int),[u,v]),((0:Int),[v,u]),((1:Int),[a,a]),((1:Int),[b,b])] [V.ref tp0,.ref tp1,.ref tp2,.ref tp3]:=(.cons ⟨tp0,tl0,rfl,(zt2.trans (zt3.trans (zt4.trans (zt5.trans (zt6.trans (zt7.trans zt8)))))) _ _ upd_same,(zt1.trans (zt2.trans (zt3.trans (zt4.trans (zt5.trans (zt6.trans (zt7.trans zt8))))))) _ _ upd_same⟩ (.cons ⟨tp1,tl1,rfl,(zt4.trans (zt5.trans (zt6.trans (zt7.trans zt8)))) _ _ upd_same,(zt3.trans (zt4.trans (zt5.trans (zt6.trans (zt7.trans zt8))))) _ _ upd_same⟩ (.cons ⟨tp2,tl2,rfl,(zt6.trans (zt7.trans zt8)) _ _ upd_same,(zt5.trans (zt6.trans (zt7.trans zt8))) _ _ upd_same⟩ (.cons ⟨tp3,tl3,rfl,zt8 _ _ upd_same,(zt7.trans zt8) _ _ upd_same⟩ .nil))))
  have st:Same B3 (upd (upd (upd (upd (upd (upd (upd (upd (upd B3 tl0 (.lst [.str u,.str v])) tp0 (.tup [.int 0,.ref tl0])) tl1 (.lst [.str v,.str u])) tp1 (.tup [.int 0,.ref tl1])) tl2 (.lst [.str a,.str a])) tp2 (.tup [.int 1,.ref tl2])) tl3 (.lst [.str b,.str b])) tp3 (.tup [.int 1,.ref tl3])) tS (.lst [.ref tp0,.ref tp1,.ref tp2,.ref tp3])):=(zt0.trans (zt1.trans (zt2.trans (zt3.trans (zt4.trans (zt5.trans (zt6.trans (zt7.trans zt8))))))))
  generalize (upd (upd (upd (upd (upd (upd (upd (upd (upd B3 tl0 (.lst [.str u,.str v])) tp0 (.tup [.int 0,.ref tl0])) tl1 (.lst [.str v,.str u])) tp1 (.tup [.int 0,.ref tl1])) tl2 (.lst [.str a,.str a])) tp2 (.tup [.int 1,.ref tl2])) tl3 (.lst [.str b,.str b])) tp3 (.tup [.int 1,.ref tl3])) tS (.lst [.ref tp0,.ref tp1,.ref tp2,.ref tp3]))=B4 at et gt st ⊢
  clear htl0 htp0 htl1 htp1 htl2 htp2 htl3 htp3 htS zt0 zt1 zt2 zt3 zt4 zt5 zt6 zt7 zt8
  refine⟨_,rfl,(by show 1 <= sizeLine;decide),fun nl0 hnl0=>⟨(by show 2 <= sizeLine;decide),fun np0 hnp0=>⟨_,rfl,(by show 1 <= sizeLine;decide),fun nl1 hnl1=>⟨(by show 2 <= sizeLine;decide),fun np1 hnp1=>⟨_,rfl,_,rfl,(by show 2 <= sizeLine;decide),fun nl2 hnl2=>⟨(by show 2 <= sizeLine;decide),fun np2 hnp2=>⟨_,rfl,_,rfl,(by show 2 <= sizeLine;decide),fun nl3 hnl3=>⟨(by show 2 <= sizeLine;decide),fun np3 hnp3=>⟨(by show 4 <= sizeLine;decide),fun nS hnS=>?_⟩⟩⟩⟩⟩⟩⟩⟩⟩
  have zn0:=same_new hnl0 (.lst [.str u])
  have zn1:=same_new hnp0 (.tup [.int 0,.ref nl0])
  have zn2:=same_new hnl1 (.lst [.str v])
  have zn3:=same_new hnp1 (.tup [.int 0,.ref nl1])
  have zn4:=same_new hnl2 (.lst [.str a,.str a])
  have zn5:=same_new hnp2 (.tup [.int 1,.ref nl2])
  have zn6:=same_new hnl3 (.lst [.str b,.str b])
  have zn7:=same_new hnp3 (.tup [.int 1,.ref nl3])
  have zn8:=same_new hnS (.lst [.ref np0,.ref np1,.ref np2,.ref np3])
  have en:(upd (upd (upd (upd (upd (upd (upd (upd (upd B4 nl0 (.lst [.str u])) np0 (.tup [.int 0,.ref nl0])) nl1 (.lst [.str v])) np1 (.tup [.int 0,.ref nl1])) nl2 (.lst [.str a,.str a])) np2 (.tup [.int 1,.ref nl2])) nl3 (.lst [.str b,.str b])) np3 (.tup [.int 1,.ref nl3])) nS (.lst [.ref np0,.ref np1,.ref np2,.ref np3])) nS=some (.lst [.ref np0,.ref np1,.ref np2,.ref np3]):=upd_same
  have gn:L2R (TuIs (upd (upd (upd (upd (upd (upd (upd (upd (upd B4 nl0 (.lst [.str u])) np0 (.tup [.int 0,.ref nl0])) nl1 (.lst [.str v])) np1 (.tup [.int 0,.ref nl1])) nl2 (.lst [.str a,.str a])) np2 (.tup [.int 1,.ref nl2])) nl3 (.lst [.str b,.str b])) np3 (.tup [.int 1,.ref nl3])) nS (.lst [.ref np0,.ref np1,.ref np2,.ref np3]))) [((0:Int),[u]),((0:Int),[v]),((1:Int),[a,a]),((1:Int),[b,b])] [V.ref np0,.ref np1,.ref np2,.ref np3]:=(.cons ⟨np0,nl0,rfl,(zn2.trans (zn3.trans (zn4.trans (zn5.trans (zn6.trans (zn7.trans zn8)))))) _ _ upd_same,(zn1.trans (zn2.trans (zn3.trans (zn4.trans (zn5.trans (zn6.trans (zn7.trans zn8))))))) _ _ upd_same⟩ (.cons ⟨np1,nl1,rfl,(zn4.trans (zn5.trans (zn6.trans (zn7.trans zn8)))) _ _ upd_same,(zn3.trans (zn4.trans (zn5.trans (zn6.trans (zn7.trans zn8))))) _ _ upd_same⟩ (.cons ⟨np2,nl2,rfl,(zn6.trans (zn7.trans zn8)) _ _ upd_same,(zn5.trans (zn6.trans (zn7.trans zn8))) _ _ upd_same⟩ (.cons ⟨np3,nl3,rfl,zn8 _ _ upd_same,(zn7.trans zn8) _ _ upd_same⟩ .nil))))
  have sn:Same B4 (upd (upd (upd (upd (upd (upd (upd (upd (upd B4 nl0 (.lst [.str u])) np0 (.tup [.int 0,.ref nl0])) nl1 (.lst [.str v])) np1 (.tup [.int 0,.ref nl1])) nl2 (.lst [.str a,.str a])) np2 (.tup [.int 1,.ref nl2])) nl3 (.lst [.str b,.str b])) np3 (.tup [.int 1,.ref nl3])) nS (.lst [.ref np0,.ref np1,.ref np2,.ref np3])):=(zn0.trans (zn1.trans (zn2.trans (zn3.trans (zn4.trans (zn5.trans (zn6.trans (zn7.trans zn8))))))))
  generalize (upd (upd (upd (upd (upd (upd (upd (upd (upd B4 nl0 (.lst [.str u])) np0 (.tup [.int 0,.ref nl0])) nl1 (.lst [.str v])) np1 (.tup [.int 0,.ref nl1])) nl2 (.lst [.str a,.str a])) np2 (.tup [.int 1,.ref nl2])) nl3 (.lst [.str b,.str b])) np3 (.tup [.int 1,.ref nl3])) nS (.lst [.ref np0,.ref np1,.ref np2,.ref np3]))=B5 at en gn sn ⊢
  clear hnl0 hnp0 hnl1 hnp1 hnl2 hnp2 hnl3 hnp3 hnS zn0 zn1 zn2 zn3 zn4 zn5 zn6 zn7 zn8
  obtain⟨Nm,hNm⟩ : ∃ Nm:Str->Prop,Nm=fun n=>n=a\/n=b\/n=u\/n=v:=⟨_,rfl⟩
  have na:Nm a:=by rw[hNm];exact .inl rfl
  have nb:Nm b:=by rw[hNm];exact .inr (.inl rfl)
  have nu:Nm u:=by rw[hNm];exact .inr (.inr (.inl rfl))
  have nv:Nm v:=by rw[hNm];exact .inr (.inr (.inr rfl))
  have nmq:∀ n,Nm n->∃ q ∈ ([(a, "num"),(b, "num")]:List (Str × Str))++([(u, "num"),(v, "num")]:List (Str × Str)),n=q.1:=fun n hn=>by
    rw[hNm] at hn
    rcases hn with rfl | rfl | rfl | rfl
    · exact⟨(n, "num"),by simp,rfl⟩
    · exact⟨(n, "num"),by simp,rfl⟩
    · exact⟨(n, "num"),by simp,rfl⟩
    · exact⟨(n, "num"),by simp,rfl⟩
  have tu1:∀ (k:Int) (x:Str),(k=0\/k=1)->Nm x->TuG Nm (k,[x]):=fun k x hk hx=>⟨hk,Nat.le_refl 1,(by decide:1 <= 2),fun n hn=>by rw[List.mem_singleton.mp hn];exact hx⟩
  have tu2:∀ (k:Int) (x y:Str),(k=0\/k=1)->Nm x->Nm y->TuG Nm (k,[x,y]):=fun k x y hk hx hy=>⟨hk,(by decide:1 <= 2),Nat.le_refl 2,fun n hn=>by
    rcases List.mem_cons.mp hn with rfl | hn
    · exact hx
    · rw[List.mem_singleton.mp hn];exact hy⟩
  have all4:∀ {x0 x1 x2 x3:Int × List Str},TuG Nm x0->TuG Nm x1->TuG Nm x2->TuG Nm x3->∀ z ∈ [x0,x1,x2,x3],TuG Nm z:=fun h0 h1 h2 h3 z hz=>by
    rcases List.mem_cons.mp hz with rfl | hz
    · exact h0
    rcases List.mem_cons.mp hz with rfl | hz
    · exact h1
    rcases List.mem_cons.mp hz with rfl | hz
    · exact h2
    rw[List.mem_singleton.mp hz]
    exact h3
  have tx:=all4 (tu2 0 u u (.inl rfl) nu nu) (tu2 0 v v (.inl rfl) nv nv) (tu2 1 a a (.inr rfl) na na) (tu2 1 b b (.inr rfl) nb nb)
  have ty:=all4 (tu2 0 u u (.inl rfl) nu nu) (tu2 0 v v (.inl rfl) nv nv) (tu2 1 a b (.inr rfl) na nb) (tu2 1 b a (.inr rfl) nb na)
  have tt:=all4 (tu2 0 u v (.inl rfl) nu nv) (tu2 0 v u (.inl rfl) nv nu) (tu2 1 a a (.inr rfl) na na) (tu2 1 b b (.inr rfl) nb nb)
  have tn:=all4 (tu1 0 u (.inl rfl) nu) (tu1 0 v (.inl rfl) nv) (tu2 1 a a (.inr rfl) na na) (tu2 1 b b (.inr rfl) nb nb)
  have tq4:=all4 (tu2 0 u u (.inl rfl) nu nu) (tu2 0 v v (.inl rfl) nv nv) (tu2 1 a a (.inr rfl) na na) (tu1 1 b (.inr rfl) nb)
  have tq5:=all4 (tu1 0 u (.inl rfl) nu) (tu2 0 v v (.inl rfl) nv nv) (tu2 1 a a (.inr rfl) na na) (tu2 1 b b (.inr rfl) nb nb)
  clear tu1 tu2 all4
  have sA:=sx.trans (sy.trans (st.trans sn))
  have s4:=s3.trans sA
  replace ex:=(sy.trans (st.trans sn)) _ _ ex
  replace gx:=gx.imp fun _ _ h=>TuIs.same (sy.trans (st.trans sn)) h
  replace ey:=(st.trans sn) _ _ ey
  replace gy:=gy.imp fun _ _ h=>TuIs.same (st.trans sn) h
  replace et:=sn _ _ et
  replace gt:=gt.imp fun _ _ h=>TuIs.same sn h
  have hSG5:=sA _ _ hSG1
  have rS5:L2R (SgIs B5) _ sgv:=rS.imp fun _ _ h=>SgIs.same (sameT sA) h
  clear sA sx sy st sn s3 hSG1 rS
  cases rS5 with | cons i0 rS5=>cases rS5 with | cons i1 rS5=>cases rS5 with | nil=>
  have j0:=i0
  have j1:=i1
  obtain⟨q0,_,_,_,_,rfl,hq0,_⟩:=i0
  obtain⟨q1,_,_,_,_,rfl,hq1,_⟩:=i1
  dsimp only[gName]
  refine seq_join (fun σ' H'=>σ'=[some (.ref c),some (.int wh),some (.str a),some (.str b),some (.str u),some (.str v),some (.ref O),some (.ref SG),some (.ref xS),some (.ref yS),some (.ref tS),some (.ref nS),some (.str o),none,none,none,none,none]/\B5=H') ?_ (fun F hX=>?_)
  rotate_left
  refine⟨_,rfl,SG,_,0,.ref q0,rfl,rfl,SqL.of hSG5,rfl,q0,_,0,.str o,rfl,rfl,SqT.of hq0,rfl,?_⟩
  exact hX _ _ ⟨rfl,rfl⟩
  rintro _ _ ⟨rfl,rfl⟩
  refine seq_join (fun σ' H'=>σ'=[some (.ref c),some (.int wh),some (.str a),some (.str b),some (.str u),some (.str v),some (.ref O),some (.ref SG),some (.ref xS),some (.ref yS),some (.ref tS),some (.ref nS),some (.str o),some (.str t),none,none,none,none]/\B5=H') ?_ (fun F hX=>?_)
  rotate_left
  refine⟨_,rfl,SG,_,1,.ref q1,rfl,rfl,SqL.of hSG5,rfl,q1,_,0,.str t,rfl,rfl,SqT.of hq1,rfl,?_⟩
  exact hX _ _ ⟨rfl,rfl⟩
  rintro _ _ ⟨rfl,rfl⟩
  refine seq_join (fun σ' H'=>∃ FF fvs,σ'=[some (.ref c),some (.int wh),some (.str a),some (.str b),some (.str u),some (.str v),some (.ref O),some (.ref SG),some (.ref xS),some (.ref yS),some (.ref tS),some (.ref nS),some (.str o),some (.str t),some (.ref FF),none,none,none]/\B5 FF=none/\TwS B5 FF Nm o t 1 fvs H') ?_ (fun F hX=>?_)
  rotate_left
  refine⟨_,rfl,wh,_,rfl,_,rfl,(by show 0 <= sizeLine;decide),fun f1 hf1=>⟨_,rfl,(by show 2 <= sizeLine;decide),fun f2 hf2=>⟨(by show 3 <= sizeLine;decide),fun f3 hf3=>⟨_,rfl,(by show 1 <= sizeLine;decide),fun f4 hf4=>⟨(by show 3 <= sizeLine;decide),fun f5 hf5=>⟨(by show 2 <= sizeLine;decide),fun f6 hf6=>⟨(by show 4 <= sizeLine;decide),fun f7 hf7=>⟨(by show 1 <= sizeLine;decide),fun FF hFF'=>?_⟩⟩⟩⟩⟩⟩⟩⟩
  have z1:=same_new hf1 (.tup [])
  have z2:=same_new hf2 (.tup [.str "num",.int 1])
  have z3:=same_new hf3 (.tup [.int 0,.str u,.ref f2])
  have z4:=same_new hf4 (.tup [.str "mark"])
  have z5:=same_new hf5 (.tup [.int 0,.str v,.ref f4])
  have z6:=same_new hf6 (.tup [.ref f3,.ref f5])
  have z7:=same_new hf7 (.tup [.str (wrd wh 0),.str o,.ref f1,.ref f6])
  have z8:=same_new hFF' (.lst [.ref f7])
  have z78:=z7.trans z8
  have z68:=z6.trans z78
  have z58:=z5.trans z68
  have z48:=z4.trans z58
  have z38:=z3.trans z48
  have z28:=z2.trans z38
  have hFF:B5 FF=none:=z1.free (z2.free (z3.free (z4.free (z5.free (z6.free (z7.free hFF'))))))
  have tw:TwS B5 FF Nm o t 1 [.ref f7] (upd (upd (upd (upd (upd (upd (upd (upd B5 f1 (.tup [])) f2 (.tup [.str "num",.int 1])) f3 (.tup [.int 0,.str u,.ref f2])) f4 (.tup [.str "mark"])) f5 (.tup [.int 0,.str v,.ref f4])) f6 (.tup [.ref f3,.ref f5])) f7 (.tup [.str (wrd wh 0),.str o,.ref f1,.ref f6])) FF (.lst [.ref f7])):=by
    refine⟨z1.trans z28,upd_same,[⟨wrd wh 0,o,[],[⟨0,u,.num 1⟩,⟨0,v,.mark⟩]⟩],.cons ⟨f7,f1,f6,_,rfl,z8 _ _ upd_same,z28 _ _ upd_same,z78 _ _ upd_same,.cons ⟨f3,.ref f2,rfl,z48 _ _ upd_same,tm_num (z38 _ _ upd_same)⟩ (.cons ⟨f5,.ref f4,rfl,z68 _ _ upd_same,tm_mark (z58 _ _ upd_same)⟩ .nil)⟩ .nil,rfl,fun i f hi=>?_⟩
    have:i=0:=by
      have:=lt_of_some hi
      simp at this
      omega
    subst this
    cases hi
    refine⟨.inl rfl,(by decide:2 <= 4),.inl ⟨rfl,rfl,fun r hr=>?_⟩⟩
    rcases List.mem_cons.mp hr with rfl | hr
    · exact⟨rfl,nu,rfl,by unfold depth;decide,by unfold parts;decide⟩
    · rw[List.mem_singleton.mp hr]
      exact⟨rfl,nv,rfl,by unfold depth;decide,by unfold parts;decide⟩
  exact hX _ _ ⟨FF,_,rfl,hFF,tw⟩
  rintro _ G0 ⟨FF,fvs1,rfl,hFF,tw⟩
  refine seq_join (fun σ' H'=>σ'=[some (.ref c),some (.int wh),some (.str a),some (.str b),some (.str u),some (.str v),some (.ref O),some (.ref SG),some (.ref xS),some (.ref yS),some (.ref tS),some (.ref nS),some (.str o),some (.str t),some (.ref FF),none,none,none]/\∃ fvs,TwS B5 FF Nm o t 2 fvs H') ?_ (fun F hX=>?_)
  rotate_left
  refine⟨_,rfl,.inl ⟨rfl,_,SqL.of tw.2.1⟩,_,rfl,_,rfl,_,rfl,(by show 1 <= sizeLine;decide),fun br hbr=>⟨_,rfl,wh,1,o,br,xS,[o],_,_,true,Nm,rfl,upd_same,(tw.1.trans (same_new hbr (.tup [.str o]))) _ _ ex,gx.imp (fun _ _ h=>TuIs.same (tw.1.trans (same_new hbr (.tup [.str o]))) h),Nat.le_of_ble_eq_true rfl,Nat.le_of_ble_eq_true rfl,tx,(fun _=>Nat.le_of_ble_eq_true rfl),fun v f G s' hf e1 e2 e3 e4=>⟨FF,_,_,rfl,rfl,((same_new hbr (.tup [.str o])).trans s') _ _ tw.2.1,tw.fit (by decide),?_⟩⟩⟩
  replace tw:=tw.next hFF ((same_new hbr (.tup [.str o])).trans s') hf ⟨.inl e1,e3,.inr ⟨by decide,.inl e2,e4⟩⟩
  exact hX _ _ ⟨rfl,_,tw⟩
  clear tw
  rintro _ G1 ⟨rfl,fvs2,tw⟩
  refine seq_join (fun σ' H'=>σ'=[some (.ref c),some (.int wh),some (.str a),some (.str b),some (.str u),some (.str v),some (.ref O),some (.ref SG),some (.ref xS),some (.ref yS),some (.ref tS),some (.ref nS),some (.str o),some (.str t),some (.ref FF),none,none,none]/\∃ fvs,TwS B5 FF Nm o t 3 fvs H') ?_ (fun F hX=>?_)
  rotate_left
  refine⟨_,rfl,.inl ⟨rfl,_,SqL.of tw.2.1⟩,_,rfl,_,rfl,_,rfl,(by show 1 <= sizeLine;decide),fun br hbr=>⟨_,rfl,wh,2,o,br,yS,[o],_,_,false,Nm,rfl,upd_same,(tw.1.trans (same_new hbr (.tup [.str o]))) _ _ ey,gy.imp (fun _ _ h=>TuIs.same (tw.1.trans (same_new hbr (.tup [.str o]))) h),Nat.le_of_ble_eq_true rfl,Nat.le_of_ble_eq_true rfl,ty,(fun _=>Nat.le_of_ble_eq_true rfl),fun v f G s' hf e1 e2 e3 e4=>⟨FF,_,_,rfl,rfl,((same_new hbr (.tup [.str o])).trans s') _ _ tw.2.1,tw.fit (by decide),?_⟩⟩⟩
  replace tw:=tw.next hFF ((same_new hbr (.tup [.str o])).trans s') hf ⟨.inl e1,e3,.inr ⟨by decide,.inl e2,e4⟩⟩
  exact hX _ _ ⟨rfl,_,tw⟩
  clear tw
  rintro _ G2 ⟨rfl,fvs3,tw⟩
  refine seq_join (fun σ' H'=>σ'=[some (.ref c),some (.int wh),some (.str a),some (.str b),some (.str u),some (.str v),some (.ref O),some (.ref SG),some (.ref xS),some (.ref yS),some (.ref tS),some (.ref nS),some (.str o),some (.str t),some (.ref FF),none,none,none]/\∃ fvs,TwS B5 FF Nm o t 4 fvs H') ?_ (fun F hX=>?_)
  rotate_left
  refine⟨_,rfl,.inl ⟨rfl,_,SqL.of tw.2.1⟩,_,rfl,_,rfl,_,rfl,(by show 1 <= sizeLine;decide),fun br hbr=>⟨_,rfl,wh,3,o,br,tS,[o],_,_,false,Nm,rfl,upd_same,(tw.1.trans (same_new hbr (.tup [.str o]))) _ _ et,gt.imp (fun _ _ h=>TuIs.same (tw.1.trans (same_new hbr (.tup [.str o]))) h),Nat.le_of_ble_eq_true rfl,Nat.le_of_ble_eq_true rfl,tt,(fun _=>Nat.le_of_ble_eq_true rfl),fun v f G s' hf e1 e2 e3 e4=>⟨FF,_,_,rfl,rfl,((same_new hbr (.tup [.str o])).trans s') _ _ tw.2.1,tw.fit (by decide),?_⟩⟩⟩
  replace tw:=tw.next hFF ((same_new hbr (.tup [.str o])).trans s') hf ⟨.inl e1,e3,.inr ⟨by decide,.inl e2,e4⟩⟩
  exact hX _ _ ⟨rfl,_,tw⟩
  clear tw
  rintro _ G3 ⟨rfl,fvs4,tw⟩
  refine seq_join (fun σ' H'=>σ'=[some (.ref c),some (.int wh),some (.str a),some (.str b),some (.str u),some (.str v),some (.ref O),some (.ref SG),some (.ref xS),some (.ref yS),some (.ref tS),some (.ref nS),some (.str o),some (.str t),some (.ref FF),none,none,none]/\∃ fvs,TwS B5 FF Nm o t 5 fvs H') ?_ (fun F hX=>?_)
  rotate_left
  refine⟨_,rfl,.inl ⟨rfl,_,SqL.of tw.2.1⟩,_,rfl,_,rfl,_,rfl,(by show 1 <= sizeLine;decide),fun br hbr=>?_⟩
  have c1s:=same_new hbr (.tup [.str o])
  refine⟨_,rfl,_,rfl,xS,_,rfl,SqL.of ((tw.1.trans c1s) _ _ ex),fun c1 hc1=>?_⟩
  rw[show cutV [V.ref xp0,V.ref xp1,V.ref xp2,V.ref xp3] none (some 3)=[V.ref xp0,V.ref xp1,V.ref xp2] from rfl]
  have c2s:=same_new hc1 (.lst [V.ref xp0,V.ref xp1,V.ref xp2])
  refine⟨_,rfl,(by show 1 <= sizeLine;decide),fun l hl=>⟨(by show 2 <= sizeLine;decide),fun p hp=>⟨(by show 1 <= sizeLine;decide),fun c2 hc2=>?_⟩⟩⟩
  have c3s:=same_new hl (.lst [.str b])
  have c4s:=same_new hp (.tup [.int 1,.ref l])
  have c5s:=same_new hc2 (.lst [.ref p])
  refine⟨c1,c2,_,_,rfl,rfl,(c3s.trans (c4s.trans c5s)) _ _ upd_same,upd_same,(by show 4 <= sizeLine;decide),fun c3 hc3=>?_⟩
  have c6s:=same_new hc3 (.lst ([V.ref xp0,V.ref xp1,V.ref xp2]++[.ref p]))
  have cA:=c1s.trans (c2s.trans (c3s.trans (c4s.trans (c5s.trans c6s))))
  have hbr':=(c2s.trans (c3s.trans (c4s.trans (c5s.trans c6s)))) _ _ (upd_same (H:=G3) (a:=br) (o:=.tup [.str o]))
  have gq:L2R (TuIs (upd (upd (upd (upd (upd (upd G3 br (.tup [.str o])) c1 (.lst [V.ref xp0,V.ref xp1,V.ref xp2])) l (.lst [.str b])) p (.tup [.int 1,.ref l])) c2 (.lst [.ref p])) c3 (.lst ([V.ref xp0,V.ref xp1,V.ref xp2]++[.ref p])))) [((0:Int),[u,u]),(0,[v,v]),(1,[a,a]),(1,[b])] ([V.ref xp0,V.ref xp1,V.ref xp2]++[.ref p]):=by
    cases gx with | cons i0 gx=>cases gx with | cons i1 gx=>cases gx with | cons i2 gx=>
    exact .cons (TuIs.same (tw.1.trans cA) i0) (.cons (TuIs.same (tw.1.trans cA) i1) (.cons (TuIs.same (tw.1.trans cA) i2) (.cons ⟨p,l,rfl,(c5s.trans c6s) _ _ upd_same,(c4s.trans (c5s.trans c6s)) _ _ upd_same⟩ .nil)))
  refine⟨wh,4,o,br,c3,[o],_,_,false,Nm,rfl,hbr',upd_same,gq,Nat.le_of_ble_eq_true rfl,Nat.le_of_ble_eq_true rfl,tq4,(fun _=>Nat.le_of_ble_eq_true rfl),fun v f G s' hf e1 e2 e3 e4=>⟨FF,_,_,rfl,rfl,(cA.trans s') _ _ tw.2.1,tw.fit (by decide),?_⟩⟩
  replace tw:=tw.next hFF (cA.trans s') hf ⟨.inl e1,e3,.inr ⟨by decide,.inl e2,e4⟩⟩
  exact hX _ _ ⟨rfl,_,tw⟩
  clear tw
  rintro _ G4 ⟨rfl,fvs5,tw⟩
  refine seq_join (fun σ' H'=>σ'=[some (.ref c),some (.int wh),some (.str a),some (.str b),some (.str u),some (.str v),some (.ref O),some (.ref SG),some (.ref xS),some (.ref yS),some (.ref tS),some (.ref nS),some (.str o),some (.str t),some (.ref FF),none,none,none]/\∃ fvs,TwS B5 FF Nm o t 6 fvs H') ?_ (fun F hX=>?_)
  rotate_left
  refine⟨_,rfl,.inl ⟨rfl,_,SqL.of tw.2.1⟩,_,rfl,_,rfl,_,rfl,(by show 1 <= sizeLine;decide),fun br hbr=>?_⟩
  have c1s:=same_new hbr (.tup [.str o])
  refine⟨_,rfl,(by show 1 <= sizeLine;decide),fun l hl=>⟨(by show 2 <= sizeLine;decide),fun p hp=>⟨(by show 1 <= sizeLine;decide),fun c2 hc2=>?_⟩⟩⟩
  have c2s:=same_new hl (.lst [.str u])
  have c3s:=same_new hp (.tup [.int 0,.ref l])
  have c4s:=same_new hc2 (.lst [.ref p])
  refine⟨_,rfl,_,rfl,xS,_,rfl,SqL.of ((tw.1.trans (c1s.trans (c2s.trans (c3s.trans c4s)))) _ _ ex),fun c1 hc1=>?_⟩
  rw[show cutV [V.ref xp0,V.ref xp1,V.ref xp2,V.ref xp3] (some 1) none=[V.ref xp1,V.ref xp2,V.ref xp3] from rfl]
  have c5s:=same_new hc1 (.lst [V.ref xp1,V.ref xp2,V.ref xp3])
  refine⟨c2,c1,_,_,rfl,rfl,c5s _ _ upd_same,upd_same,(by show 4 <= sizeLine;decide),fun c3 hc3=>?_⟩
  have c6s:=same_new hc3 (.lst ([V.ref p]++[V.ref xp1,V.ref xp2,V.ref xp3]))
  have cA:=c1s.trans (c2s.trans (c3s.trans (c4s.trans (c5s.trans c6s))))
  have hbr':=(c2s.trans (c3s.trans (c4s.trans (c5s.trans c6s)))) _ _ (upd_same (H:=G4) (a:=br) (o:=.tup [.str o]))
  have gq:L2R (TuIs (upd (upd (upd (upd (upd (upd G4 br (.tup [.str o])) l (.lst [.str u])) p (.tup [.int 0,.ref l])) c2 (.lst [.ref p])) c1 (.lst [V.ref xp1,V.ref xp2,V.ref xp3])) c3 (.lst ([V.ref p]++[V.ref xp1,V.ref xp2,V.ref xp3])))) [((0:Int),[u]),(0,[v,v]),(1,[a,a]),(1,[b,b])] ([V.ref p]++[V.ref xp1,V.ref xp2,V.ref xp3]):=by
    cases gx with | cons i0 gx=>cases gx with | cons i1 gx=>cases gx with | cons i2 gx=>cases gx with | cons i3 gx=>
    exact .cons ⟨p,l,rfl,(c4s.trans (c5s.trans c6s)) _ _ upd_same,(c3s.trans (c4s.trans (c5s.trans c6s))) _ _ upd_same⟩ (.cons (TuIs.same (tw.1.trans cA) i1) (.cons (TuIs.same (tw.1.trans cA) i2) (.cons (TuIs.same (tw.1.trans cA) i3) .nil)))
  refine⟨wh,5,o,br,c3,[o],_,_,false,Nm,rfl,hbr',upd_same,gq,Nat.le_of_ble_eq_true rfl,Nat.le_of_ble_eq_true rfl,tq5,(fun _=>Nat.le_of_ble_eq_true rfl),fun v f G s' hf e1 e2 e3 e4=>⟨FF,_,_,rfl,rfl,(cA.trans s') _ _ tw.2.1,tw.fit (by decide),?_⟩⟩
  replace tw:=tw.next hFF (cA.trans s') hf ⟨.inl e1,e3,.inr ⟨by decide,.inl e2,e4⟩⟩
  exact hX _ _ ⟨rfl,_,tw⟩
  clear tw
  rintro _ G5 ⟨rfl,fvs6,tw⟩
  refine seq_join (fun σ' H'=>σ'=[some (.ref c),some (.int wh),some (.str a),some (.str b),some (.str u),some (.str v),some (.ref O),some (.ref SG),some (.ref xS),some (.ref yS),some (.ref tS),some (.ref nS),some (.str o),some (.str t),some (.ref FF),none,none,none]/\∃ fvs,TwS B5 FF Nm o t 7 fvs H') ?_ (fun F hX=>?_)
  rotate_left
  refine⟨_,rfl,.inl ⟨rfl,_,SqL.of tw.2.1⟩,_,rfl,_,rfl,_,rfl,(by show 1 <= sizeLine;decide),fun br hbr=>⟨_,rfl,wh,6,t,br,nS,[o],_,_,false,Nm,rfl,upd_same,(tw.1.trans (same_new hbr (.tup [.str o]))) _ _ en,gn.imp (fun _ _ h=>TuIs.same (tw.1.trans (same_new hbr (.tup [.str o]))) h),Nat.le_of_ble_eq_true rfl,Nat.le_of_ble_eq_true rfl,tn,(fun _=>Nat.le_of_ble_eq_true rfl),fun v f G s' hf e1 e2 e3 e4=>⟨FF,_,_,rfl,rfl,((same_new hbr (.tup [.str o])).trans s') _ _ tw.2.1,tw.fit (by decide),?_⟩⟩⟩
  replace tw:=tw.next hFF ((same_new hbr (.tup [.str o])).trans s') hf ⟨.inr e1,e3,.inr ⟨by decide,.inl e2,e4⟩⟩
  exact hX _ _ ⟨rfl,_,tw⟩
  clear tw
  rintro _ G6 ⟨rfl,fvs7,tw⟩
  refine seq_join (fun σ' H'=>σ'=[some (.ref c),some (.int wh),some (.str a),some (.str b),some (.str u),some (.str v),some (.ref O),some (.ref SG),some (.ref xS),some (.ref yS),some (.ref tS),some (.ref nS),some (.str o),some (.str t),some (.ref FF),none,none,none]/\∃ fvs,TwS B5 FF Nm o t 8 fvs H') ?_ (fun F hX=>?_)
  rotate_left
  refine⟨_,rfl,.inl ⟨rfl,_,SqL.of tw.2.1⟩,_,rfl,_,rfl,_,rfl,(by show 1 <= sizeLine;decide),fun br hbr=>⟨_,rfl,wh,7,t,br,xS,[t],_,_,true,Nm,rfl,upd_same,(tw.1.trans (same_new hbr (.tup [.str t]))) _ _ ex,gx.imp (fun _ _ h=>TuIs.same (tw.1.trans (same_new hbr (.tup [.str t]))) h),Nat.le_of_ble_eq_true rfl,Nat.le_of_ble_eq_true rfl,tx,(fun _=>Nat.le_of_ble_eq_true rfl),fun v f G s' hf e1 e2 e3 e4=>⟨FF,_,_,rfl,rfl,((same_new hbr (.tup [.str t])).trans s') _ _ tw.2.1,tw.fit (by decide),?_⟩⟩⟩
  replace tw:=tw.next hFF ((same_new hbr (.tup [.str t])).trans s') hf ⟨.inr e1,e3,.inr ⟨by decide,.inr e2,e4⟩⟩
  exact hX _ _ ⟨rfl,_,tw⟩
  clear tw
  rintro _ G7 ⟨rfl,fvs8,tw⟩
  refine seq_join (fun σ' H'=>σ'=[some (.ref c),some (.int wh),some (.str a),some (.str b),some (.str u),some (.str v),some (.ref O),some (.ref SG),some (.ref xS),some (.ref yS),some (.ref tS),some (.ref nS),some (.str o),some (.str t),some (.ref FF),none,none,none]/\∃ fvs,TwS B5 FF Nm o t 9 fvs H') ?_ (fun F hX=>?_)
  rotate_left
  refine⟨_,rfl,.inl ⟨rfl,_,SqL.of tw.2.1⟩,_,rfl,_,rfl,_,rfl,(by show 1 <= sizeLine;decide),fun br hbr=>⟨_,rfl,wh,8,t,br,yS,[t],_,_,false,Nm,rfl,upd_same,(tw.1.trans (same_new hbr (.tup [.str t]))) _ _ ey,gy.imp (fun _ _ h=>TuIs.same (tw.1.trans (same_new hbr (.tup [.str t]))) h),Nat.le_of_ble_eq_true rfl,Nat.le_of_ble_eq_true rfl,ty,(fun _=>Nat.le_of_ble_eq_true rfl),fun v f G s' hf e1 e2 e3 e4=>⟨FF,_,_,rfl,rfl,((same_new hbr (.tup [.str t])).trans s') _ _ tw.2.1,tw.fit (by decide),?_⟩⟩⟩
  replace tw:=tw.next hFF ((same_new hbr (.tup [.str t])).trans s') hf ⟨.inr e1,e3,.inr ⟨by decide,.inr e2,e4⟩⟩
  exact hX _ _ ⟨rfl,_,tw⟩
  clear tw
  rintro _ G8 ⟨rfl,fvs9,tw⟩
  refine seq_join (fun σ' H'=>σ'=[some (.ref c),some (.int wh),some (.str a),some (.str b),some (.str u),some (.str v),some (.ref O),some (.ref SG),some (.ref xS),some (.ref yS),some (.ref tS),some (.ref nS),some (.str o),some (.str t),some (.ref FF),none,none,none]/\∃ fvs,TwS B5 FF Nm o t 10 fvs H') ?_ (fun F hX=>?_)
  rotate_left
  refine⟨_,rfl,.inl ⟨rfl,_,SqL.of tw.2.1⟩,_,rfl,_,rfl,_,rfl,(by show 1 <= sizeLine;decide),fun br hbr=>⟨_,rfl,wh,9,t,br,tS,[t],_,_,false,Nm,rfl,upd_same,(tw.1.trans (same_new hbr (.tup [.str t]))) _ _ et,gt.imp (fun _ _ h=>TuIs.same (tw.1.trans (same_new hbr (.tup [.str t]))) h),Nat.le_of_ble_eq_true rfl,Nat.le_of_ble_eq_true rfl,tt,(fun _=>Nat.le_of_ble_eq_true rfl),fun v f G s' hf e1 e2 e3 e4=>⟨FF,_,_,rfl,rfl,((same_new hbr (.tup [.str t])).trans s') _ _ tw.2.1,tw.fit (by decide),?_⟩⟩⟩
  replace tw:=tw.next hFF ((same_new hbr (.tup [.str t])).trans s') hf ⟨.inr e1,e3,.inr ⟨by decide,.inr e2,e4⟩⟩
  exact hX _ _ ⟨rfl,_,tw⟩
  clear tw
  rintro _ G9 ⟨rfl,fvs10,tw⟩
  have tw9:=tw
  obtain⟨sB,hF,fs,rF,lF,gF⟩:=tw
  have hSG9:=sB _ _ hSG5
  refine⟨_,rfl,SG,_,rfl,.inl ⟨SqL.of hSG9,fun ts hts=>?_⟩⟩
  have y1:=same_new hts (.tup [.ref q0,.ref q1])
  refine⟨_,rfl,FF,_,rfl,.inl ⟨SqL.of (y1 _ _ hF),fun tf htf=>?_⟩⟩
  have y2:=same_new htf (.tup fvs10)
  refine⟨(by show 2 <= sizeLine;decide),fun gp hgp=>?_⟩
  have y3:=same_new hgp (.tup [.ref ts,.ref tf])
  refine⟨(by show 0 <= sizeLine;decide),fun L hL=>?_⟩
  have y4:=same_new hL (.lst [])
  refine⟨(by show 21 <= sizeLine;decide),fun LL hLL=>?_⟩
  have y5:=same_new hLL (.lst [.int 0,.int 1,.int 2,.int 1,.int 3,.int 1,.int 2,.int 1,.int 4,.int 2,.int 1,.int 2,.int 5,.int 2,.int 1,.int 3,.int 6,.int 7,.int 8,.int 7,.int 9])
  have yA:=y1.trans (y2.trans (y3.trans (y4.trans y5)))
  have hts':=(y2.trans (y3.trans (y4.trans y5))) _ _ (upd_same (H:=G9) (a:=ts) (o:=.tup [.ref q0,.ref q1]))
  have hgp':=(y4.trans y5) _ _ (upd_same (H:=upd (upd G9 ts (.tup [.ref q0,.ref q1])) tf (.tup fvs10)) (a:=gp) (o:=.tup [.ref ts,.ref tf]))
  have hL':=y5 _ _ (upd_same (H:=upd (upd (upd G9 ts (.tup [.ref q0,.ref q1])) tf (.tup fvs10)) gp (.tup [.ref ts,.ref tf])) (a:=L) (o:=.lst []))
  have hLL':=upd_same (H:=upd (upd (upd (upd G9 ts (.tup [.ref q0,.ref q1])) tf (.tup fvs10)) gp (.tup [.ref ts,.ref tf])) L (.lst [])) (a:=LL) (o:=.lst [.int 0,.int 1,.int 2,.int 1,.int 3,.int 1,.int 2,.int 1,.int 4,.int 2,.int 1,.int 2,.int 5,.int 2,.int 1,.int 3,.int 6,.int 7,.int 8,.int 7,.int 9])
  have nLL:LL ≠ L:=fun z=>by rw[z,upd_same] at hLL;cases hLL
  have nFL:FF ≠ L:=fun z=>by rw[<- z,(y1.trans (y2.trans y3)) _ _ hF] at hL;cases hL
  have fL:H L=none:=s4.free (sB.free (y1.free (y2.free (y3.free hL))))
  have hF8:=yA _ _ hF
  have rF8:=rF.imp fun _ _ h=>FmIs.same (sameT yA) h
  have s8:=s4.trans (sB.trans yA)
  have rS8:=L2R.cons (SgIs.same (sameT (sB.trans yA)) j0) (.cons (SgIs.same (sameT (sB.trans yA)) j1) .nil)
  generalize upd (upd (upd (upd (upd G9 ts (.tup [.ref q0,.ref q1])) tf (.tup fvs10)) gp (.tup [.ref ts,.ref tf])) L (.lst [])) LL (.lst [.int 0,.int 1,.int 2,.int 1,.int 3,.int 1,.int 2,.int 1,.int 4,.int 2,.int 1,.int 2,.int 5,.int 2,.int 1,.int 3,.int 6,.int 7,.int 8,.int 7,.int 9])=H8 at hts' hgp' hL' hLL' hF8 rF8 s8 rS8 ⊢
  clear yA y1 y2 y3 y4 y5
  change H8 LL=some (.lst (twL.map V.int)) at hLL'
  refine⟨LL,rfl,⟨_,SqL.of hLL'⟩,?_⟩
  refine for_list (K:=K) (xs:=twL.map V.int) (fun i σ H'=>∃ (rs:List Rw) (us:List V) (x17:Option V),σ=[some (.ref c),some (.int wh),some (.str a),some (.str b),some (.str u),some (.str v),some (.ref O),some (.ref SG),some (.ref xS),some (.ref yS),some (.ref tS),some (.ref nS),some (.str o),some (.str t),some (.ref FF),some (.ref gp),some (.ref L),x17]/\Kp [L] H8 H'/\H' L=some (.lst us)/\L2R (RwIs H') rs us/\RwOk rs/\RowsG [(⟨o,[(a, "num"),(b, "num")],[(u, "num"),(v, "num")]⟩ : Sg),⟨t,[(a, "num"),(b, "num")],[(u, "num"),(v, "num")]⟩] rs/\rs.length <= i/\(0 < i->rs ≠ []))
    ⟨[],[],_,rfl,Kp.refl _ _,hL',.nil,⟨by decide,fun i r h=>by simp at h⟩,(fun r h=>nomatch h),Nat.le_refl _,fun h=>absurd h (by decide)⟩ (fun i σ H' _ ⟨_,_,_,_,kp,_⟩=>SqL.of (kp _ _ (by simpa using nLL) hLL')) ?_ ?_
  · rintro i x σ H' hx ⟨rs,us,x17,rfl,kp,hL2,hrs,ok,rg,lr,ne⟩
    have hi21:i < 21:=lt_of_some hx
    rw[List.getElem?_map] at hx
    cases hz:twL[i]? with
    | none=>rw[hz] at hx;cases hx
    | some z=>
    rw[hz] at hx
    cases hx
    obtain⟨z0,z9⟩:=twL_ok z (List.mem_of_getElem? hz)
    have TT:SameT H8 H':=kp.T fun x hx=>by rw[List.mem_singleton.mp hx];exact⟨_,hL'⟩
    have hgp2:=TT _ _ hgp'
    have hts2:=TT _ _ hts'
    have rS2:=rS8.imp fun _ _ h=>SgIs.same TT h
    have hF2:=kp _ _ (by simpa using nFL) hF8
    have rF2:=rF8.imp fun _ _ h=>FmIs.same TT h
    have lus:=hrs.len
    have lfv:=rF.len
    obtain⟨vv,hv⟩:=some_of_lt (xs:=fvs10) (i:=z.toNat) (by omega)
    obtain⟨f,hf,hfv⟩:=rF2.get hv
    have tg:=gF _ f hf
    have fp:=twP tg (g1 o) (g1 t) nmq
    have b3:=fp.b3
    have hfv0:=hfv
    obtain⟨fa,fb,fr,fus,rfl,hfa,hfb,_⟩:=hfv
    have hat:atI fvs10 z=some (.ref fa):=by rw[<- Int.toNat_of_nonneg z0];exact atI_nat hv
    have i0z:i=0->z=0:=fun h=>by
      rw[h] at hz
      cases hz
      rfl
    refine⟨_,rfl,_,rfl,_,rfl,_,rfl,FF,_,_,.ref fa,rfl,rfl,SqL.of hF2,hat,_,rfl,L,_,rfl,.inl (SqL.of hL2),_,_,rfl,rfl,(by show 1 <= sizeLine;decide),fun p1 hp1=>?_⟩
    have t1:=same_new hp1 (.lst [.int ((us.length:Int) - 1)])
    have lbr:(f.br.map V.str).length=f.br.length:=List.length_map _
    refine⟨_,rfl,_,rfl,FF,_,_,.ref fa,rfl,rfl,SqL.of (t1 _ _ hF2),hat,fa,_,2,.ref fb,rfl,rfl,SqT.of (t1 _ _ hfa),rfl,fb,_,rfl,.inr (SqT.of (t1 _ _ hfb)),p1,_,[.int ((us.length:Int) - 1)],rfl,rfl,upd_same,by omega,by omega,fits2 (by show 1 * _ <= 100000;omega),fun p2 hp2=>?_⟩
    obtain⟨low,elow,llow,hlow⟩ : ∃ low:List Nat,(List.replicate ((f.br.map V.str).length:Int).toNat [V.int ((us.length:Int) - 1)]).flatten=lowV low/\low.length=f.br.length/\∀ (k n:Nat),low[k]?=some n->k=0/\n+1=rs.length/\∃ x,f.br=[x]/\(x=o\/x=t):=by
      have one:∀ x,f.br=[x]->0 < z.toNat->(x=o\/x=t)->∃ low:List Nat,(List.replicate ((f.br.map V.str).length:Int).toNat [V.int ((us.length:Int) - 1)]).flatten=lowV low/\low.length=f.br.length/\∀ (k n:Nat),low[k]?=some n->k=0/\n+1=rs.length/\∃ x,f.br=[x]/\(x=o\/x=t):=fun x hx zp hxo=>by
        have ip:0 < i:=by
          by_cases h:i=0
          · have:=i0z h
            omega
          · omega
        have rp:0 < rs.length:=by
          have:=ne ip
          cases rs with
          | nil=>exact absurd rfl this
          | cons r rs=>exact Nat.succ_pos _
        refine⟨[rs.length - 1],?_,by rw[hx];rfl,fun k n hk=>?_⟩
        · rw[hx]
          show [V.int ((us.length:Int) - 1)]=[V.int ((rs.length - 1:Nat):Int)]
          rw[show ((rs.length - 1:Nat):Int)=(us.length:Int) - 1 by omega]
        · have k0:k=0:=by
            have:=lt_of_some hk
            simp at this
            omega
          subst k0
          cases hk
          exact⟨rfl,by omega,x,hx,hxo⟩
      obtain⟨_,_,h⟩:=tg
      rcases h with ⟨_,h,_⟩ | ⟨zp,h | h,_⟩
      · exact⟨[],by rw[h];rfl,by rw[h];rfl,fun k n hk=>by simp at hk⟩
      · exact one o h zp (.inl rfl)
      · exact one t h zp (.inr rfl)
    rw[elow]
    have t2:=same_new hp2 (.lst (lowV low))
    refine⟨p2,_,rfl,.inl ⟨SqL.of upd_same,fun tl htl=>?_⟩⟩
    have t3:=same_new htl (.tup (lowV low))
    have sm:=t1.trans (t2.trans t3)
    refine⟨gp,ts,L,tl,_,_,_,us,_,f,rs,low,rfl,sm _ _ hgp2,sm _ _ hts2,rS2.imp fun _ _ h=>SgIs.same (sameT sm) h,FmIs.same (sameT sm) hfv0,fp,sm _ _ hL2,hrs.imp fun _ _ h=>RwIs.same sm h,by omega,upd_same,by omega,fun k n hk=>?_,fun rs' us' J' kJ hLJ hrJ hor hne=>?_⟩
    · obtain⟨rfl,en,x,ebr,exo⟩:=hlow k n hk
      obtain⟨r,hr'⟩:=some_of_lt (xs:=rs) (i:=n) (by omega)
      rw[rcAt_of hr']
      have rc:=rg r (List.mem_of_getElem? hr')
      refine⟨lt_of_some hr',rc.1,fun p hp=>?_⟩
      obtain⟨s,hs,_,⟨a',ha',e1⟩,b',hb',e2⟩:=rc.2 p hp
      have hdu:s.dn=([(a, "num"),(b, "num")]:List (Str × Str))/\s.up=([(u, "num"),(v, "num")]:List (Str × Str)):=by
        rcases List.mem_cons.mp hs with rfl | hs
        · exact⟨rfl,rfl⟩
        · rw[List.mem_singleton.mp hs];exact⟨rfl,rfl⟩
      rw[hdu.1] at ha'
      rw[hdu.2] at hb'
      exact⟨tw_va (k:=1) (x:=x) (by rw[ebr];rfl) exo rfl ⟨a',List.mem_append_left _ ha',e1⟩,tw_va (k:=1) (x:=x) (by rw[ebr];rfl) exo rfl ⟨b',List.mem_append_right _ hb',e2⟩⟩
    have kF:Kp [L] H8 J':=(kp.same sm).trans kJ
    rcases hor with rfl | ⟨rc,rfl,grc⟩
    · refine⟨rs',us',_,rfl,kF,hLJ,hrJ,ok,rg,by omega,fun _=>?_⟩
      by_cases hi0:0 < i
      · exact ne hi0
      · have i0:i=0:=by omega
        have r0:rs'=[]:=List.eq_nil_of_length_eq_zero (by omega)
        have zz:=i0z i0
        obtain⟨_,_,h⟩:=tg
        rcases h with ⟨_,h,hru⟩ | ⟨zp,_⟩
        · exact hne r0 (List.eq_nil_of_length_eq_zero (by rw[llow,h];rfl)) fun r hr p hp=>by
            rw[(hru r hr).2.2.1] at hp
            exact nomatch hp
        · rw[zz] at zp
          exact absurd zp (by decide)
    · exact⟨_,us',_,rfl,kF,hLJ,hrJ,ok.snoc (by omega) (by show low.length <= 3;omega) (fun n hn=>by
        obtain⟨k,hk⟩:=List.getElem?_of_mem hn
        have:=(hlow k n hk).2.1
        omega),rg.snoc grc,by rw[List.length_append];show rs.length+1 <= i+1;omega,fun _ z=>by simp at z⟩
  rintro σ H' ⟨rs,us,x17,rfl,kp,hL2,hrs,ok,rg,lr,ne⟩
  refine⟨_,rfl,_,rfl,(by show 2 <= sizeLine;decide),fun l hl=>?_⟩
  have t6:=same_new hl (.lst [.ref gp,.ref L])
  have sF:Same H H':=Same.kp (fun x hx=>by rw[List.mem_singleton.mp hx];exact fL) s8 kp
  have l1:1 <= rs.length:=by
    have h2:=ne (by decide)
    cases rs with
    | nil=>exact absurd rfl h2
    | cons r rs=>exact Nat.succ_le_succ (Nat.zero_le _)
  exact q l L _ us rs _ (sF.trans t6) upd_same (t6 _ _ hL2) (hrs.imp fun _ _ h=>RwIs.same t6 h) ok l1
end
end K35
namespace K35
open PySem L2 TR SP
open TM
def spLaw (K:PySem.W.Frag):Sp:=fun vs H Q _=>∃ (a:Addr) (ns:List Int),vs=[.ref a]/\SqL K H a (ns.map V.int)/\ns.length <= 63/\∀ H',Q (.bl true) H'
noncomputable def drw (r:Rw):Da:=.tup [.fl (.str r.sg),.tup (r.rc.map dpr),.fl (.str r.nm),.tup (r.low.map fun (n:Nat)=>Da.fl (.int (n:Int)))]
theorem low_isds {K:PySem.W.Frag} {H:Hp}:∀ (low:List Nat),Isds K H (low.map fun (n:Nat)=>Da.fl (.int (n:Int))) (lowV low)/\depDs (low.map fun (n:Nat)=>Da.fl (.int (n:Int)))=0
  | []=>⟨by show Isds K H [] [];unfold Isds;rfl,by show depDs []=0;unfold depDs;rfl⟩
  | n::low=>by
    obtain⟨i1,i2⟩:=low_isds (K:=K) (H:=H) low
    refine⟨?_,?_⟩
    · show Isds K H (Da.fl (.int (n:Int))::_) (V.int (n:Int)::lowV low)
      unfold Isds
      exact⟨_,_,rfl,by unfold Isd;exact⟨rfl,rfl⟩,i1⟩
    · show depDs (Da.fl (.int (n:Int))::_)=0
      unfold depDs
      rw[i2]
      unfold depD
      rfl
theorem drw_isds {K:PySem.W.Frag} {H:Hp}:∀ {rs:List Rw} {us:List V},L2R (RwIs H) rs us->Isds K H (rs.map drw) us/\depDs (rs.map drw) <= 3
  | [],us,h=>by
    cases h
    exact⟨by show Isds K H [] [];unfold Isds;rfl,by show depDs [] <= 3;unfold depDs;decide⟩
  | r::rs,us,h=>by
    cases h with
    | cons h1 h2=>
      obtain⟨i1,i2⟩:=drw_isds (K:=K) h2
      obtain⟨p,rp,rus,t,rfl,hp,hrp,hrr,ht⟩:=h1
      obtain⟨j1,j2⟩:=dpr_isds (K:=K) hrr
      obtain⟨k1,k2⟩:=low_isds (K:=K) (H:=H) r.low
      refine⟨?_,?_⟩
      · show Isds K H (drw r::rs.map drw) _
        unfold Isds
        refine⟨_,_,rfl,?_,i1⟩
        unfold drw Isd
        refine⟨p,_,rfl,SqT.of hp,?_⟩
        unfold Isds
        refine⟨_,_,rfl,by unfold Isd;exact⟨rfl,rfl⟩,?_⟩
        unfold Isds
        refine⟨_,_,rfl,by unfold Isd;exact⟨rp,_,rfl,SqT.of hrp,j1⟩,?_⟩
        unfold Isds
        refine⟨_,_,rfl,by unfold Isd;exact⟨rfl,rfl⟩,?_⟩
        unfold Isds
        refine⟨_,_,rfl,by unfold Isd;exact⟨t,_,rfl,SqT.of ht,k1⟩,?_⟩
        unfold Isds
        rfl
      · show depDs (drw r::rs.map drw) <= 3
        unfold depDs
        have:depD (drw r) <= 3:=by
          unfold drw depD depDs depDs depDs depDs depDs depD
          simp only[k2]
          omega
        omega
section
variable {P:Program} {w:World} {K:PySem.W.Frag} {mg:Str->Option Value} {base:Heap} {T:Adr}
theorem ok_law (X:Tx K mg T):FnOk P w K mg base CX0 140 T.law T.d_law ["_law_script"] (spLaw K):=by
  have G_qdrawn:=(ok_drawn (P:=P) (w:=w) (base:=base) X).mono (show 16 <= 139 by decide)
  have G_qwide:=(ok_wide (P:=P) (w:=w) (base:=base) X).mono (show 2 <= 139 by decide)
  have G_qtower:=(ok_tower (P:=P) (w:=w) (base:=base) X).mono (show 16 <= 139 by decide)
  have G_qtold:=(ok_told (P:=P) (w:=w) (base:=base) X).mono (show 23 <= 139 by decide)
  have G_qistree:=(ok_isT (P:=P) (w:=w) (base:=base) X 20).mono (show 22 <= 139 by decide)
  refine X.F_law.okQ sc_law (fun vs H Q E h=>?_) (fun cdv A outer s H vs Q E hr h=>?_)
  · obtain⟨_,_,rfl,_⟩:=h
    rfl
  obtain⟨a,ns,rfl,hS,h63,q⟩:=h
  refine⟨_,(qss_cons (qs_setC (ys:=[]) (js:=[]) rfl rfl (qi_list (qe_slice sl_list (qv 0) qo_none (qo_some qe_int))) (fun _ _ _ _ _=>qif_nil) (fun _ _ _ _ _=>(qe_op op_mod (qv 0) (qe_op op_pow qe_int qe_int))) (qg_name (i:=1) sc_law.nd rfl (Or.inl rfl)) rfl) (qss_cons (qs_set (i:=2) sc_law.nd rfl (Or.inl rfl) (qe_op op_mod (qe_op op_add (qe_op op_mul (qe_callB (call_sum rfl) rfl X.z_sum PyProof.Rows.boot_sum (qaN (qv 1) qa_nil)) qe_int) (qe_callB call_len_seq rfl X.z_len PySem.boot_len (qaN (qv 1) qa_nil))) qe_int)) (qss_cons (qs_if (qt_cmpR op_eq (qe_op op_mod (qv 2) qe_int) qe_int (nomark _)) (qss_one (qs_asg (qe_call G_qdrawn hr rfl X.m_qdrawn X.F_qdrawn.kp X.b_qdrawn .nil pass0 (qaN (qv 1) qa_nil)) (qg_lst rfl (qgs_cons (qg_name (i:=3) sc_law.nd rfl (Or.inl rfl)) (qgs_cons (qg_name (i:=4) sc_law.nd rfl (Or.inl rfl)) qgs_nil))))) (qss_one (qs_if (qt_cmpR op_eq (qe_op op_mod (qv 2) qe_int) qe_int (nomark _)) (qss_one (qs_asg (qe_call G_qwide hr rfl X.m_qwide X.F_qwide.kp X.b_qwide .nil pass0 (qaN (qv 1) (qaB (qe_op op_mod (qe_op op_fdiv (qv 2) qe_int) qe_int) qa_nil))) (qg_lst rfl (qgs_cons (qg_name (i:=3) sc_law.nd rfl (Or.inl rfl)) (qgs_cons (qg_name (i:=4) sc_law.nd rfl (Or.inl rfl)) qgs_nil))))) (qss_one (qs_asg (qe_call G_qtower hr rfl X.m_qtower X.F_qtower.kp X.b_qtower .nil pass0 (qaN (qv 1) qa_nil)) (qg_lst rfl (qgs_cons (qg_name (i:=3) sc_law.nd rfl (Or.inl rfl)) (qgs_cons (qg_name (i:=4) sc_law.nd rfl (Or.inl rfl)) qgs_nil)))))))) (qss_cons (qs_set (i:=5) sc_law.nd rfl (Or.inr rfl) (qe_lst qa_nil)) (qss_cons (qs_set (i:=6) sc_law.nd rfl (Or.inr rfl) (qe_lst qa_nil)) (qss_cons (qs_for PassesOwn.never rfl (qi_list (qv 4)) (qg_name (i:=7) sc_law.nd rfl (Or.inl rfl)) (qss_cons (qs_expr (qe_bm PySem.F.plainAttrs_list PySem.F.slot_list_append PySem.F.type_list_append mt_append (qv 5) (qaB (qe_op op_add qe_int (qe_callB (call_sum rfl) rfl X.z_sum PyProof.Rows.boot_sum (qaE (qe_comp (ys:=["_law_many"]) (js:=[5]) rfl rfl (qi_tup (qe_ix ix_tup (qv 7) qe_int (fun _ _=>rfl))) (fun _ _ _ _ _=>qif_nil) (fun _ _ _ _ _=>(qe_ix (ix_listC (K:=K) rfl) (qv 1) (qv 0) (fun _ _=>rfl)))) qa_nil))) qa_nil))) (qss_one (qs_expr (qe_bm PySem.F.plainAttrs_list PySem.F.slot_list_append PySem.F.type_list_append mt_append (qv 6) (qaB (qe_op op_add qe_int (qe_callB (call_maxL rfl) rfl X.z_max PyProof.Rows.boot_max (qaB (qe_op op_cat (qe_lst (qaC qe_int qa_nil)) (qe_comp (ys:=["_law_deep"]) (js:=[6]) rfl rfl (qi_tup (qe_ix ix_tup (qv 7) qe_int (fun _ _=>rfl))) (fun _ _ _ _ _=>qif_nil) (fun _ _ _ _ _=>(qe_ix (ix_listC (K:=K) rfl) (qv 1) (qv 0) (fun _ _=>rfl))))) qa_nil))) qa_nil)))))) (qss_cons (qs_for PassesOwn.never rfl (qi_list (qe_lst (qaC qe_int (qaB (qe_op op_sub (qe_callB call_len_seq rfl X.z_len PySem.boot_len (qaN (qv 4) qa_nil)) qe_int) (qaK (qe_callB (call_max2 rfl) rfl X.z_max PyProof.Rows.boot_max (qaC qe_int (qaB (qe_op op_sub (qe_callB call_len_seq rfl X.z_len PySem.boot_len (qaN (qv 4) qa_nil)) qe_int) qa_nil))) (qaB (qe_op op_mod (qe_op op_fdiv (qv 2) qe_int) (qe_callB call_len_seq rfl X.z_len PySem.boot_len (qaN (qv 4) qa_nil))) qa_nil)))))) (qg_name (i:=8) sc_law.nd rfl (Or.inl rfl)) (qss_cons (qs_set (i:=9) sc_law.nd rfl (Or.inl rfl) (qe_callTy call_list_of rfl X.z_list PyProof.Rows.boot_list (qaN (qv 4) qa_nil))) (qss_cons (qs_set (i:=10) sc_law.nd rfl (Or.inl rfl) (qe_call G_qtold hr rfl X.m_qtold X.F_qtold.kp X.b_qtold .nil pass0 (qaN (qv 3) (qaN (qv 9) (qaN (qv 8) qa_nil))))) (qss_cons (qs_if (qw_pt (qw_or (qt_not (qt_val (qe_ix ix_list (qv 10) qe_int (fun _ _=>rfl)))) (qw_or (qt_cmpR (op_neD hr.units) (qv 9) (qv 4) (nomark _)) (qw_or1 (qt_cmpR op_ne (qe_ix ix_list (qv 10) qe_int (fun _ _=>rfl)) (qe_or (qe_cmpR op_gt (qe_ix ix_list (qv 5) (qv 8) (fun _ _=>rfl)) qe_int (nomark _)) (qe_one (qe_cmpR op_gt (qe_ix ix_list (qv 6) (qv 8) (fun _ _=>rfl)) qe_int (nomark _)))) (nomark _)))))) (qss_one (qs_ret qe_bl)) qss_nil) (qss_one (qs_if (qw_pt (qw_and (qt_not (qt_val (qe_ix ix_list (qv 10) qe_int (fun _ _=>rfl)))) (qw_and1 (qt_not (qt_val (qe_call G_qistree hr rfl X.m_qistree X.F_qistree.kp X.b_qistree .nil pass0 (qaS (qe_ix ix_list (qv 10) qe_int (fun _ _=>rfl)) (qaN (qv 4) (qaN (qv 8) qa_nil))))))))) (qss_one (qs_ret qe_bl)) qss_nil)))))) (qss_one (qs_ret qe_bl))))))))),?_⟩
  dsimp only[cxOf]
  refine⟨_,rfl,_,rfl,a,_,rfl,hS,fun p hp=>?_⟩
  rw[show cutV (ns.map V.int) none (some 63)=ns.map V.int by
    have:=cut_take' (ns.map V.int) 63
    rw[List.take_of_length_le (by rw[List.length_map];exact h63)] at this
    exact this]
  refine⟨p,rfl,⟨_,SqL.of upd_same⟩,fun D hD=>?_⟩
  have big:(10 ^ Int.toNat 18:Int)=1000000000000000000:=by decide
  refine comp_lstM (K:=K) (xs:=ns.map V.int) (ys:=(ns.map fun n=>n % 1000000000000000000).map V.int) (fitsL (by rw[List.length_map];omega)) (by simp) (SqL.of upd_same) hD (fun i x y J hx hy sJ Q' k=>?_) fun H1 s1 hD1=>?_
  · rw[List.getElem?_map] at hx
    rw[List.getElem?_map,List.getElem?_map] at hy
    cases e:ns[i]? with
    | none=>rw[e] at hx;cases hx
    | some n=>
      rw[e] at hx hy
      cases hx
      cases hy
      exact⟨_,rfl,_,_,rfl,rfl,⟨by decide,by decide,by decide⟩,_,_,rfl,rfl,(by show (0:Int) < 10 ^ Int.toNat 18;decide),by rw[big];exact k _ (Same.refl _)⟩
  have hcs:∀ c ∈ (ns.map fun n=>n % 1000000000000000000),0 <= c/\c < 1000000000000000000:=fun c hc=>by
    obtain⟨n,_,rfl⟩:=List.mem_map.mp hc
    omega
  have lcs:(ns.map fun n=>n % 1000000000000000000).length <= 63:=by rw[List.length_map];exact h63
  generalize (ns.map fun n=>n % 1000000000000000000)=cs at hcs lcs hD1
  refine⟨_,rfl,D,cs,rfl,SqL.of hD1,_,_,rfl,rfl,.inr ⟨by decide,by decide⟩,_,rfl,D,_,rfl,.inl (SqL.of hD1),_,_,rfl,rfl,_,_,rfl,rfl,(by show (0:Int) < 2147483647;decide),?_⟩
  dsimp only
  have sd0:=Int.emod_nonneg (cs.sum * 48271+((cs.map V.int).length:Int)) (show (2147483647:Int) ≠ 0 by decide)
  generalize (cs.sum * 48271+((cs.map V.int).length:Int)) % 2147483647=sd at sd0 ⊢
  dsimp only[gName]
  refine seq_join (fun σ' H'=>∃ (L:Addr) (g:V) (us:List V) (rs:List Rw),σ'=[some (.ref a),some (.ref D),some (.int sd),some g,some (.ref L),none,none,none,none,none,none]/\H' L=some (.lst us)/\L2R (RwIs H') rs us/\RwOk rs/\1 <= rs.length) ?_ (fun F hX=>?_)
  rotate_left
  · refine⟨_,rfl,_,_,rfl,rfl,(by show (0:Int) < 3;decide),rfl,_,rfl,iteDd (fun _=>?_) (fun _=>?_)⟩
    · exact⟨_,rfl,D,cs,rfl,hD1,lcs,hcs,fun l L g us rs H' s' hl hL hrs ok l1=>⟨l,_,rfl,SqL.of hl,rfl,_,_,rfl,_,_,rfl,rfl,hX _ _ ⟨L,g,us,rs,rfl,hL,hrs,ok,l1⟩⟩⟩
    · refine⟨_,rfl,_,_,rfl,rfl,(by show (0:Int) < 3;decide),rfl,_,rfl,iteDd (fun _=>?_) (fun _=>?_)⟩
      · have w0:=Int.emod_nonneg (sd / 3) (show (3:Int) ≠ 0 by decide)
        have w1:=Int.emod_lt_of_pos (sd / 3) (show (0:Int) < 3 by decide)
        exact⟨_,rfl,_,rfl,_,_,rfl,rfl,⟨by decide,by decide⟩,_,_,rfl,rfl,(by show (0:Int) < 3;decide),D,cs,_,rfl,hD1,lcs,w0,w1,fun l L g us rs H' s' hl hL hrs ok l1=>⟨l,_,rfl,SqL.of hl,rfl,_,_,rfl,_,_,rfl,rfl,hX _ _ ⟨L,g,us,rs,rfl,hL,hrs,ok,l1⟩⟩⟩
      · exact⟨_,rfl,D,cs,rfl,hD1,lcs,fun l L g us rs H' s' hl hL hrs ok l1=>⟨l,_,rfl,SqL.of hl,rfl,_,_,rfl,_,_,rfl,rfl,hX _ _ ⟨L,g,us,rs,rfl,hL,hrs,ok,l1⟩⟩⟩
  clear hS s1 hD1 hcs lcs hD hp
  rintro _ H2 ⟨L,g,us,rs,rfl,hL,hrs,ok,l1⟩
  have lus:=hrs.len
  have l100:=ok.1
  refine⟨(by show 0 <= sizeLine;decide),fun S hS=>?_⟩
  have s0:=same_new hS (.lst [])
  refine⟨(by show 0 <= sizeLine;decide),fun DD hDD=>?_⟩
  have s1:=same_new hDD (.lst [])
  have nD:DD ≠ S:=fun z=>by rw[z,upd_same] at hDD;cases hDD
  have hDH:H2 DD=none:=s0.free hDD
  generalize hB:upd (upd H2 S (.lst [])) DD (.lst [])=B at s1
  have hBS:B S=some (.lst (([]:List Int).map V.int)):=s1 _ _ upd_same
  have hBD:B DD=some (.lst (([]:List Int).map V.int)):=by rw[<- hB,upd_same];rfl
  have sB:Same H2 B:=s0.trans s1
  refine⟨_,rfl,L,rfl,⟨_,SqL.of (sB _ _ hL)⟩,?_⟩
  refine for_list (K:=K) (a:=L) (xs:=us) (fun i σ H'=>∃ x7,σ=[some (.ref a),some (.ref D),some (.int sd),some g,some (.ref L),some (.ref S),some (.ref DD),x7,none,none,none]/\Same H2 H'/\H' S=some (.lst ((szs (rs.take i)).map V.int))/\H' DD=some (.lst ((dps (rs.take i)).map V.int))) ⟨none,rfl,sB,hBS,hBD⟩ (fun i σ H' _ ⟨_,_,sm,_⟩=>SqL.of (sm _ _ hL)) ?_ ?_
  · rintro i v σ H' hv ⟨x7,rfl,sm,hS',hD'⟩
    obtain⟨r,hr',p,rp,rus,t,rfl,hp,_,_,ht⟩:=hrs.get hv
    obtain⟨o1,o2⟩:=ok.2 i r hr'
    have il:=lt_of_some hr'
    have lt:(rs.take i).length=i:=by rw[List.length_take];omega
    have hp':=sm _ _ hp
    have ht':=sm _ _ ht
    refine⟨_,rfl,.inl ⟨rfl,_,SqL.of hS'⟩,_,rfl,p,_,3,.ref t,rfl,rfl,SqT.of hp',rfl,t,rfl,⟨_,SqT.of ht'⟩,fun C hC=>?_⟩
    refine low_comp (K:=K) (S:=S) (low:=r.low) (acc:=szs (rs.take i)) o1 (fun m hm=>by rw[szs_len,lt];exact o2 m hm) ht' hC hS' (fun m z H1 hz h1 Q' k=>?_) fun H1 s3 hC1=>?_
    · exact⟨_,rfl,_,rfl,S,_,_,.int z,rfl,rfl,SqL.of h1,atI_nat (by rw[List.getElem?_map,hz];rfl),k⟩
    refine⟨C,_,rfl,SqL.of hC1,_,_,rfl,rfl,?_⟩
    have lz:(szs (rs.take i)).length=i:=by rw[szs_len,lt]
    have ld:(dps (rs.take i)).length=i:=by rw[dps_len,lt]
    refine⟨S,_,_,rfl,rfl,s3 _ _ hS',fitsL (by rw[List.length_map];omega),?_⟩
    have sS:Same H2 (upd H1 S (.lst ((szs (rs.take i)).map V.int++[.int (1+(r.low.map fun n=>(szs (rs.take i)).getD n 0).sum)]))):=same_upd hS (sm.trans s3)
    have hD3:(upd H1 S (.lst ((szs (rs.take i)).map V.int++[.int (1+(r.low.map fun n=>(szs (rs.take i)).getD n 0).sum)]))) DD=some (.lst ((dps (rs.take i)).map V.int)):=by rw[upd_ne nD];exact s3 _ _ hD'
    have hS3:(upd H1 S (.lst ((szs (rs.take i)).map V.int++[.int (1+(r.low.map fun n=>(szs (rs.take i)).getD n 0).sum)]))) S=some (.lst ((szs (rs.take (i+1))).map V.int)):=by
      rw[upd_same,take_snocA hr',szs_snoc]
      unfold stS
      rw[List.map_append]
      rfl
    generalize upd H1 S (.lst ((szs (rs.take i)).map V.int++[.int (1+(r.low.map fun n=>(szs (rs.take i)).getD n 0).sum)]))=H3 at sS hD3 hS3
    refine⟨_,rfl,.inl ⟨rfl,_,SqL.of hD3⟩,(by show 1 <= sizeLine;decide),fun z0 hz0=>?_⟩
    have u1:=same_new hz0 (.lst [.int 0])
    refine⟨_,rfl,p,_,3,.ref t,rfl,rfl,SqT.of (u1 _ _ (sS _ _ hp)),rfl,t,rfl,⟨_,SqT.of (u1 _ _ (sS _ _ ht))⟩,fun C2 hC2=>?_⟩
    refine low_comp (K:=K) (S:=DD) (low:=r.low) (acc:=dps (rs.take i)) o1 (fun m hm=>by rw[dps_len,lt];exact o2 m hm) (u1 _ _ (sS _ _ ht)) hC2 (u1 _ _ hD3) (fun m z H1 hz h1 Q' k=>?_) fun H4 s4 hC4=>?_
    · exact⟨_,rfl,_,rfl,DD,_,_,.int z,rfl,rfl,SqL.of h1,atI_nat (by rw[List.getElem?_map,hz];rfl),k⟩
    have pos:∀ x ∈ (r.low.map fun n=>(dps (rs.take i)).getD n 0),0 <= x:=fun x hx=>by
      obtain⟨m,hm,rfl⟩:=List.mem_map.mp hx
      have hm2:m < (dps (rs.take i)).length:=by rw[ld];exact o2 m hm
      have:=dps_pos (rs.take i) ((dps (rs.take i))[m]) (List.getElem_mem hm2)
      rw[List.getD_eq_getElem?_getD,List.getElem?_eq_getElem hm2]
      show 0 <= (dps (rs.take i))[m]
      omega
    have llw:((r.low.map fun n=>(dps (rs.take i)).getD n 0).map V.int).length <= 3:=by rw[List.length_map,List.length_map];exact o1
    have esn:(dps (rs.take (i+1)))=dps (rs.take i)++[1+mx (r.low.map fun n=>(dps (rs.take i)).getD n 0)]:=by rw[take_snocA hr',dps_snoc];rfl
    generalize (r.low.map fun n=>(dps (rs.take i)).getD n 0)=ls at pos llw hC4 esn
    refine⟨z0,C2,_,_,rfl,rfl,s4 _ _ upd_same,hC4,fits2 (by show 1+_ <= 100000;omega),fun e he=>?_⟩
    have u2:=same_new he (.lst ([V.int 0]++ls.map V.int))
    refine⟨e,0::ls,rfl,SqL.of upd_same,(fun z=>by cases z),fun M hM hle=>⟨_,_,rfl,rfl,DD,_,_,rfl,rfl,(s4.trans u2) _ _ (u1 _ _ hD3),fitsL (by rw[List.length_map];omega),?_⟩⟩
    have hMx:M=mx ls:=mx_eq pos ((List.mem_cons.mp hM).symm) (fun x hx=>hle x (List.mem_cons_of_mem _ hx)) (hle 0 List.mem_cons_self)
    refine⟨_,rfl,same_upd hDH (sS.trans (u1.trans (s4.trans u2))),by rw[upd_ne nD.symm];exact (u1.trans (s4.trans u2)) _ _ hS3,?_⟩
    rw[upd_same,esn,hMx,List.map_append]
    rfl
  rintro σ H3 ⟨x7,rfl,s23,hS3,hD3⟩
  have eT:rs.take us.length=rs:=by rw[lus,List.take_length]
  rw[eT] at hS3 hD3
  have hL3:=s23 _ _ hL
  have hrs3:L2R (RwIs H3) rs us:=hrs.imp fun _ _ h=>RwIs.same s23 h
  clear s23 hrs hL sB hBS hBD hB s1 s0 hS hDD hDH
  have q9a:=Int.emod_nonneg (sd / 9) (show (us.length:Int) ≠ 0 by omega)
  have q9b:=Int.emod_lt_of_pos (sd / 9) (show (0:Int) < us.length by omega)
  refine⟨_,rfl,L,_,rfl,.inl (SqL.of hL3),_,_,rfl,rfl,_,rfl,L,_,rfl,.inl (SqL.of hL3),_,_,rfl,rfl,_,_,rfl,_,rfl,_,_,rfl,rfl,⟨by decide,by decide⟩,_,rfl,L,_,rfl,.inl (SqL.of hL3),_,_,rfl,rfl,(by show (0:Int) < us.length;omega),(by show 4 <= sizeLine;decide),fun NL hNL=>?_⟩
  obtain⟨nums,enums,hnums⟩ : ∃ nums:List Nat,[V.int 0,V.int ((us.length:Int) - 1),V.int (if (us.length:Int) - 2 > 0 then (us.length:Int) - 2 else 0),V.int (sd / 9 % (us.length:Int))]=lowV nums/\∀ n ∈ nums,n < rs.length:=by
    refine⟨[0,us.length - 1,us.length - 2,(sd / 9 % (us.length:Int)).toNat],?_,fun n hn=>?_⟩
    · show _=[V.int ((0:Nat):Int),V.int ((us.length - 1:Nat):Int),V.int ((us.length - 2:Nat):Int),V.int (((sd / 9 % (us.length:Int)).toNat:Nat):Int)]
      rw[Int.toNat_of_nonneg q9a,show ((us.length - 1:Nat):Int)=(us.length:Int) - 1 by omega,show (if (us.length:Int) - 2 > 0 then (us.length:Int) - 2 else 0)=((us.length - 2:Nat):Int) by split <;> omega]
      rfl
    · rcases List.mem_cons.mp hn with rfl | hn
      · omega
      rcases List.mem_cons.mp hn with rfl | hn
      · omega
      rcases List.mem_cons.mp hn with rfl | hn
      · omega
      rw[List.mem_singleton.mp hn]
      omega
  have y1:=same_new hNL (.lst [V.int 0,V.int ((us.length:Int) - 1),V.int (if (us.length:Int) - 2 > 0 then (us.length:Int) - 2 else 0),V.int (sd / 9 % (us.length:Int))])
  have hNL4:=upd_same (H:=H3) (a:=NL) (o:=.lst [V.int 0,V.int ((us.length:Int) - 1),V.int (if (us.length:Int) - 2 > 0 then (us.length:Int) - 2 else 0),V.int (sd / 9 % (us.length:Int))])
  have hL4:=y1 _ _ hL3
  have hrs4:=hrs3.imp fun _ _ h=>RwIs.same y1 h
  have hS4:=y1 _ _ hS3
  have hD4:=y1 _ _ hD3
  generalize hG:upd H3 NL _=H4
  have eG:upd H3 NL (.lst [V.int 0,V.int ((us.length:Int) - 1),V.int (if (us.length:Int) - 2 > 0 then (us.length:Int) - 2 else 0),V.int (sd / 9 % (us.length:Int))])=H4:=hG
  rw[eG] at hNL4 hL4 hrs4 hS4 hD4
  rw[enums] at hNL4
  refine⟨NL,rfl,⟨_,SqL.of hNL4⟩,?_⟩
  refine for_list (K:=K) (a:=NL) (xs:=lowV nums) (fun i σ H'=>∃ x7 x8 x9 x10,σ=[some (.ref a),some (.ref D),some (.int sd),some g,some (.ref L),some (.ref S),some (.ref DD),x7,x8,x9,x10]/\Same H4 H') ⟨_,_,_,_,rfl,Same.refl _⟩ (fun i σ H' _ ⟨_,_,_,_,_,sm⟩=>SqL.of (sm _ _ hNL4)) ?_ ?_
  · rintro i v σ H' hv ⟨x7,x8,x9,x10,rfl,sm⟩
    unfold lowV at hv
    rw[List.getElem?_map] at hv
    cases en:nums[i]? with
    | none=>rw[en] at hv;cases hv
    | some n=>
    rw[en] at hv
    cases hv
    have hn:=hnums n (List.mem_of_getElem? en)
    refine⟨_,rfl,L,_,rfl,.inl (SqL.of (sm _ _ hL4)),fun HL hHL=>?_⟩
    have t1:=same_new hHL (.lst us)
    have sm1:=sm.trans t1
    have hHL1:=upd_same (H:=H') (a:=HL) (o:=.lst us)
    generalize upd H' HL (.lst us)=J at t1 sm1 hHL1 ⊢
    have hrsJ:L2R (RwIs J) rs us:=hrs4.imp fun _ _ h=>RwIs.same sm1 h
    have hz:(szs rs)[n]?=some ((szs rs).getD n 0):=by
      rw[List.getD_eq_getElem?_getD,List.getElem?_eq_getElem (by rw[szs_len];exact hn)]
      rfl
    have hd:(dps rs)[n]?=some ((dps rs).getD n 0):=by
      rw[List.getD_eq_getElem?_getD,List.getElem?_eq_getElem (by rw[dps_len];exact hn)]
      rfl
    have hzv:atI ((szs rs).map V.int) (n:Int)=some (.int ((szs rs).getD n 0)):=atI_nat (by rw[List.getElem?_map,hz];rfl)
    have hdv:atI ((dps rs).map V.int) (n:Int)=some (.int ((dps rs).getD n 0)):=atI_nat (by rw[List.getElem?_map,hd];rfl)
    refine⟨_,rfl,_,rfl,_,rfl,g,HL,us,rs,n,rfl,hHL1,hrsJ,ok,hn,fun l vv G s2 nb gt hl=>?_,fun l G s2 b hl=>?_⟩
    · have smG:=sm1.trans s2
      have hrsG:L2R (RwIs G) rs us:=hrs4.imp fun _ _ h=>RwIs.same smG h
      obtain⟨i1,i2⟩:=drw_isds (K:=K) hrsG
      refine⟨_,rfl,l,_,2,.bl true,rfl,rfl,SqL.of hl,rfl,_,rfl,iteF ⟨_,rfl,_,rfl,HL,L,us,us,_,_,rfl,rfl,.inr ⟨SqL.of (s2 _ _ hHL1),SqL.of (smG _ _ hL4)⟩,i1,i1,by omega,_,rfl,?_⟩⟩
      rw[eqDs_refl _ i1]
      have nb1:¬ 60 < (szs rs).getD n 0:=fun z=>nb (.inl z)
      have nb2:¬ 20 < (dps rs).getD n 0:=fun z=>nb (.inr z)
      refine iteF ⟨_,rfl,l,_,0,.bl false,rfl,rfl,SqL.of hl,rfl,_,rfl,_,rfl,S,_,_,.int ((szs rs).getD n 0),rfl,rfl,SqL.of (smG _ _ hS4),hzv,_,_,rfl,rfl,?_⟩
      refine⟨_,rfl,iteDd (fun h=>absurd h nb1) (fun _=>?_)⟩
      refine⟨_,rfl,_,rfl,DD,_,_,.int ((dps rs).getD n 0),rfl,rfl,SqL.of (smG _ _ hD4),hdv,_,_,rfl,rfl,rfl,_,rfl,?_⟩
      refine iteNe (fun h=>absurd (by show V.bl false=V.bl (decide (20 < (dps rs).getD n 0));rw[decide_eq_false nb2]) h) (fun _=>?_)
      refine⟨_,rfl,l,_,0,.bl false,rfl,rfl,SqL.of hl,rfl,_,rfl,iteT ⟨_,rfl,l,_,1,vv,rfl,rfl,SqL.of hl,rfl,_,rfl,_,rfl,vv,L,us,rs,n,rfl,smG _ _ hL4,hrsG,ok,hn,(by omega),gt,fun H5 s5=>⟨_,rfl,iteF ⟨_,_,_,_,rfl,smG.trans s5⟩⟩⟩⟩
    · have smG:=sm1.trans s2
      have hrsG:L2R (RwIs G) rs us:=hrs4.imp fun _ _ h=>RwIs.same smG h
      obtain⟨i1,i2⟩:=drw_isds (K:=K) hrsG
      refine⟨_,rfl,l,_,2,.bl true,rfl,rfl,SqL.of hl,rfl,_,rfl,iteF ⟨_,rfl,_,rfl,HL,L,us,us,_,_,rfl,rfl,.inr ⟨SqL.of (s2 _ _ hHL1),SqL.of (smG _ _ hL4)⟩,i1,i1,by omega,_,rfl,?_⟩⟩
      rw[eqDs_refl _ i1]
      refine iteF ⟨_,rfl,l,_,0,.bl true,rfl,rfl,SqL.of hl,rfl,_,rfl,_,rfl,S,_,_,.int ((szs rs).getD n 0),rfl,rfl,SqL.of (smG _ _ hS4),hzv,_,_,rfl,rfl,?_⟩
      refine⟨_,rfl,iteDd (fun h=>?_) (fun h=>?_)⟩
      · refine⟨rfl,_,rfl,iteNe (fun h'=>absurd rfl h') (fun _=>?_)⟩
        exact⟨_,rfl,l,_,0,.bl true,rfl,rfl,SqL.of hl,rfl,_,rfl,iteF ⟨_,_,_,_,rfl,smG⟩⟩
      · have h2:20 < (dps rs).getD n 0:=b.resolve_left h
        refine⟨_,rfl,_,rfl,DD,_,_,.int ((dps rs).getD n 0),rfl,rfl,SqL.of (smG _ _ hD4),hdv,_,_,rfl,rfl,rfl,_,rfl,iteNe (fun h'=>absurd (by show V.bl true=V.bl (decide (20 < (dps rs).getD n 0));rw[decide_eq_true h2]) h') (fun _=>?_)⟩
        exact⟨_,rfl,l,_,0,.bl true,rfl,rfl,SqL.of hl,rfl,_,rfl,iteF ⟨_,_,_,_,rfl,smG⟩⟩
  · rintro σ H' _
    exact q H'
end
end K35
namespace K35
open PySem L2
end K35
open PySem PySem.W PyProof.Rows
set_option maxRecDepth 100000 in
set_option maxHeartbeats 0 in
theorem PySem.Challenge.cw_leafsay_k35_grown_holds : PySem.Challenge.rw_leafsay_k35_grown.Holds := by
  w_on;o_law;k_head;(case hw=>w_witness2)
  k_fill
  refine L2.walk_ofK (l:=PySem.Challenge.rw_leafsay_k35_grown) (n:=63) (k:=140) (x:="_law_script") (CX:=L2.CX0) (sp:=K35.spLaw) rfl (by decide) rfl ⟨rfl,by decide,by decide,rfl⟩ (fun w h Y=>PySem.W.kIn_of Y) ?F (fun K H a ns hl _ hS=>⟨a,ns,rfl,hS,hl,fun _=>rfl⟩) (fun _ _ _ _ z=>z)
  case F=>
    intro w mg fa h KX G hmg
    have T:∃ T:K35.Adr,K35.Tx (L2.KOf KX) mg T:=by
      dsimp only[L2.KOf]
      refine' K35.tx_mk KX G ?m_LeafError ?m_NoText ?m_TooGreat ?m_NoName ?m_NoRule ?m_NoKind ?m_NoTree ?m_NoPlace ?m_NoGiven ?m_NoWalk ?m_Ring ?a0 ?l0 ?c0 ?k0 ?a1 ?l1 ?c1 ?k1 ?a2 ?l2 ?c2 ?k2 ?a3 ?l3 ?c3 ?k3 ?a4 ?l4 ?c4 ?k4 ?a5 ?l5 ?c5 ?k5 ?a6 ?l6 ?c6 ?k6 ?a7 ?l7 ?c7 ?k7 ?a8 ?l8 ?c8 ?k8 ?a9 ?l9 ?c9 ?k9 ?a10 ?l10 ?c10 ?k10 ?a11 ?l11 ?c11 ?k11 ?a12 ?l12 ?c12 ?k12 ?a13 ?l13 ?c13 ?k13 ?a14 ?l14 ?c14 ?k14 ?a15 ?l15 ?c15 ?k15 ?a16 ?l16 ?c16 ?k16 ?a17 ?l17 ?c17 ?k17 ?a18 ?l18 ?c18 ?k18 ?a19 ?l19 ?c19 ?k19 ?a20 ?l20 ?c20 ?k20 ?a21 ?l21 ?c21 ?k21 ?a22 ?l22 ?c22 ?k22 ?a23 ?l23 ?c23 ?k23 ?a24 ?l24 ?c24 ?k24 ?z_ValueError ?z_bool ?z_int ?z_isinstance ?z_len ?z_list ?z_max ?z_min ?z_range ?z_reversed ?z_str ?z_sum ?z_tuple ?z_zip ?c_MOST_NODES ?c_MOST_DEEP ?e_TooGreat ?xga_TooGreat ?xgt_TooGreat ?xca_TooGreat ?xsp_TooGreat ?xtk_TooGreat ?xmo_TooGreat ?xmb_TooGreat ?u_TooGreat_TooGreat ?i_TooGreat_0 ?i_TooGreat_1 ?i_TooGreat_2
      (case m_LeafError=>k_is)
      (case m_NoText=>k_is)
      (case m_TooGreat=>k_is)
      (case m_NoName=>k_is)
      (case m_NoRule=>k_is)
      (case m_NoKind=>k_is)
      (case m_NoTree=>k_is)
      (case m_NoPlace=>k_is)
      (case m_NoGiven=>k_is)
      (case m_NoWalk=>k_is)
      (case m_Ring=>k_is)
      (case a0=>k_is)
      (case l0=>k_is)
      (case c0=>k_is)
      (case k0=>k_is)
      (case a1=>k_is)
      (case l1=>k_is)
      (case c1=>k_is)
      (case k1=>k_is)
      (case a2=>k_is)
      (case l2=>k_is)
      (case c2=>k_is)
      (case k2=>k_is)
      (case a3=>k_is)
      (case l3=>k_is)
      (case c3=>k_is)
      (case k3=>k_is)
      (case a4=>k_is)
      (case l4=>k_is)
      (case c4=>k_is)
      (case k4=>k_is)
      (case a5=>k_is)
      (case l5=>k_is)
      (case c5=>k_is)
      (case k5=>k_is)
      (case a6=>k_is)
      (case l6=>k_is)
      (case c6=>k_is)
      (case k6=>k_is)
      (case a7=>k_is)
      (case l7=>k_is)
      (case c7=>k_is)
      (case k7=>k_is)
      (case a8=>k_is)
      (case l8=>k_is)
      (case c8=>k_is)
      (case k8=>k_is)
      (case a9=>k_is)
      (case l9=>k_is)
      (case c9=>k_is)
      (case k9=>k_is)
      (case a10=>k_is)
      (case l10=>k_is)
      (case c10=>k_is)
      (case k10=>k_is)
      (case a11=>k_is)
      (case l11=>k_is)
      (case c11=>k_is)
      (case k11=>k_is)
      (case a12=>k_is)
      (case l12=>k_is)
      (case c12=>k_is)
      (case k12=>k_is)
      (case a13=>k_is)
      (case l13=>k_is)
      (case c13=>k_is)
      (case k13=>k_is)
      (case a14=>k_is)
      (case l14=>k_is)
      (case c14=>k_is)
      (case k14=>k_is)
      (case a15=>k_is)
      (case l15=>k_is)
      (case c15=>k_is)
      (case k15=>k_is)
      (case a16=>k_is)
      (case l16=>k_is)
      (case c16=>k_is)
      (case k16=>k_is)
      (case a17=>k_is)
      (case l17=>k_is)
      (case c17=>k_is)
      (case k17=>k_is)
      (case a18=>k_is)
      (case l18=>k_is)
      (case c18=>k_is)
      (case k18=>k_is)
      (case a19=>k_is)
      (case l19=>k_is)
      (case c19=>k_is)
      (case k19=>k_is)
      (case a20=>k_is)
      (case l20=>k_is)
      (case c20=>k_is)
      (case k20=>k_is)
      (case a21=>k_is)
      (case l21=>k_is)
      (case c21=>k_is)
      (case k21=>k_is)
      (case a22=>k_is)
      (case l22=>k_is)
      (case c22=>k_is)
      (case k22=>k_is)
      (case a23=>k_is)
      (case l23=>k_is)
      (case c23=>k_is)
      (case k23=>k_is)
      (case a24=>k_is)
      (case l24=>k_is)
      (case c24=>k_is)
      (case k24=>k_is)
      (case z_ValueError=>k_is)
      (case z_bool=>k_is)
      (case z_int=>k_is)
      (case z_isinstance=>k_is)
      (case z_len=>k_is)
      (case z_list=>k_is)
      (case z_max=>k_is)
      (case z_min=>k_is)
      (case z_range=>k_is)
      (case z_reversed=>k_is)
      (case z_str=>k_is)
      (case z_sum=>k_is)
      (case z_tuple=>k_is)
      (case z_zip=>k_is)
      (case c_MOST_NODES=>k_is)
      (case c_MOST_DEEP=>k_is)
      (case e_TooGreat=>k_exc)
      (case xga_TooGreat=>k_is)
      (case xgt_TooGreat=>k_is)
      (case xca_TooGreat=>k_is)
      (case xsp_TooGreat=>k_is)
      (case xtk_TooGreat=>k_is)
      (case xmo_TooGreat=>k_is)
      (case xmb_TooGreat=>k_is)
      (case u_TooGreat_TooGreat=>k_is)
      (case i_TooGreat_0=>kit_is)
      (case i_TooGreat_1=>kit_is)
      (case i_TooGreat_2=>kit_is)
    obtain⟨T,TX⟩:=T
    have e0:=hmg.symm.trans TX.m_law
    cases e0
    obtain⟨oc,od,kV,doc,pm,an,cdv,ct,osl,efd,_,_⟩:=TX.F_law.ex
    refine⟨T.d_law,fun s u=>?_,fun base _ _=>K35.ok_law TX⟩
    rw[efd]
    exact .of_eq rfl
