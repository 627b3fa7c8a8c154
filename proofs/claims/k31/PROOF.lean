import PyProof.Rows.All
import Wide.All
import OpenK.AllK
import Wide.FinOn
import Lean
import PyProof.EqAt
import PyProof.EqKinds
import PyProof.TupleCall
import PyProof.NeKinds
import PyProof.FitsReplace
import PyProof.Rows.SumAny
import PyProof.Rows.MinMaxN
import PyProof.Rows.CallKwBuiltin
import PyProof.StrBlock2
import KE.KMinKey
import OpenK.KOwn
import PyProof.ExcArgsOwn
import KE.KIsAll
import PyProof.ReprRoads
import PyProof.ReprBulk
import PyProof.StrWalks
import PyProof.ConsumeWalk
import PyProof.StrCalls2
import PyProof.EnumMake
import PyProof.Draws
import PyProof.Rows.EnumRows
import PyProof.Rows.FactsT2
import PyProof.CompUse
import KE.KRevIter
import PyProof.ListStr
import KE.KIntText
import PyProof.StrLawsIdx
import PyProof.StrLawsNeg
import PyProof.StrLawsTight
import PyProof.StrLawsChain
import PyProof.Rows.StrItems
import PyProof.Rows.StrFirst
import PyProof.Rows.StrLawsPart
import PyProof.Rows.Range3
import PyProof.Rows.StrWeight2
import PyProof.AutoListH
import PyProof.TupleOfGen
import PyProof.WalksEnum
import PyProof.FactsAll.range_2
import PyProof.ZipIter
import PyProof.MeetsSeq
import PyProof.Rows.StrInSeq3
import PyProof.FactsAll.list_3
import KE.KTryOn
import OpenK.KRaise
import PyProof.DictItems
import KE.KPairComp
import PyProof.Rows.SetFrom
import PyProof.SetRoads
import PyProof.AttrMissHeap
import KE.KDictOf
import PyProof.DictWalks
import KE.KUnpack
import KE.KSortAsk
import KE.KSortTup
import PyProof.ExcArgs
import PyProof.ExcInit
import PyProof.DictTruth
import PySem.Challenge.RW_leafsay_k31_rings_and_orders
set_option Elab.async false
set_option linter.all false
set_option maxRecDepth 100000
namespace L2
open PySem PySem.Spec PyProof.Rows
abbrev Key := Sum Int Str
def keyIs : Key -> Value -> Bool
  | .inl k, v => Value.isInt k v
  | .inr x, v => Value.isStrOf x v
def keyH (w : World) : Key -> Int
  | .inl k => hashInt k
  | .inr x => hashStr w x
theorem keyIs_shape : ∀ {k : Key} {v : Value}, keyIs k v = true -> (∃ i t, k = Sum.inl i /\ v = Value.int i t) \/ (∃ x t, k = Sum.inr x /\ v = Value.str x t)
  | .inl i, v, h => by
    obtain ⟨t, e⟩ := Value.isInt_shape (k := i) (v := v) h
    exact .inl ⟨i, t, rfl, e⟩
  | .inr x, v, h => by
    obtain ⟨t, e⟩ := Value.isStrOf_shape (x := x) (v := v) h
    exact .inr ⟨x, t, rfl, e⟩
theorem keyIs_int (i : Int) (t : Tok) : keyIs (.inl i) (.int i t) = true := by simp [keyIs, Value.isInt]
theorem keyIs_str (x : Str) (t : Tok) : keyIs (.inr x) (.str x t) = true := by simp [keyIs, Value.isStrOf]
theorem key_ll (a b : Int) : decide ((Sum.inl a : Key) = Sum.inl b) = (a == b) := by
  by_cases e : a = b
  · subst e; simp
  · have h : ¬ (Sum.inl a : Key) = Sum.inl b := fun q => e (Sum.inl.inj q)
    rw [decide_eq_false h]
    exact (beq_eq_false_iff_ne.mpr e).symm
theorem key_rr (a b : Str) : decide ((Sum.inr a : Key) = Sum.inr b) = decide (a = b) := by
  by_cases e : a = b
  · subst e; simp
  · have h : ¬ (Sum.inr a : Key) = Sum.inr b := fun q => e (Sum.inr.inj q)
    rw [decide_eq_false h, decide_eq_false e]
theorem key_lr (a : Int) (b : Str) : decide ((Sum.inl a : Key) = Sum.inr b) = false := decide_eq_false (fun q => nomatch q)
theorem key_rl (a : Str) (b : Int) : decide ((Sum.inr a : Key) = Sum.inl b) = false := decide_eq_false (fun q => nomatch q)
def mixKind (prog : Program) (w : World) : PySem.KeyKind prog w Key where
  is := keyIs
  hash := keyH w
  inj := fun v a b ha hb => by
    rcases keyIs_shape ha with ⟨i, t, rfl, rfl⟩ | ⟨x, t, rfl, rfl⟩
    · rcases keyIs_shape hb with ⟨j, u, rfl, e⟩ | ⟨y, u, rfl, e⟩
      · injection e with e1 _; rw [e1]
      · exact nomatch e
    · rcases keyIs_shape hb with ⟨j, u, rfl, e⟩ | ⟨y, u, rfl, e⟩
      · exact nomatch e
      · injection e with e1 _; rw [e1]
  byValue := fun k v h => by
    rcases keyIs_shape h with ⟨i, t, rfl, rfl⟩ | ⟨x, t, rfl, rfl⟩ <;> rfl
  pyHash := fun hv h => by
    rcases keyIs_shape hv with ⟨i, t, rfl, rfl⟩ | ⟨x, t, rfl, rfl⟩
    · exact wpAny_pyHash_int h
    · exact wpAny_pyHash_str h
  eqBool := fun hu hv h => by
    rcases keyIs_shape hu with ⟨i, t, rfl, rfl⟩ | ⟨x, t, rfl, rfl⟩
    · rcases keyIs_shape hv with ⟨j, u, rfl, rfl⟩ | ⟨y, u, rfl, rfl⟩
      · rw [key_ll] at h; exact wpAny_eqBool_int h
      · rw [key_lr] at h; exact SeqAt.EqAt.int_str i t y u _ _ _ _ h
    · rcases keyIs_shape hv with ⟨j, u, rfl, rfl⟩ | ⟨y, u, rfl, rfl⟩
      · rw [key_rl] at h; exact SeqAt.EqAt.str_int x t j u _ _ _ _ h
      · rw [key_rr] at h; exact wpAny_eqBool_str h
  «strs» := fun k x t v h => by
    rcases keyIs_shape h with ⟨i, u, rfl, e⟩ | ⟨y, u, rfl, e⟩
    · exact nomatch e
    · injection e with e1 _
      subst e1
      cases v <;> rfl
theorem mixKind_is (prog : Program) (w : World) (k : Key) (v : Value) : (mixKind prog w).is k v = keyIs k v := rfl
theorem mixKind_int (prog : Program) (w : World) (i : Int) (t : Tok) : (mixKind prog w).is (.inl i) (.int i t) = true := keyIs_int i t
theorem mixKind_str (prog : Program) (w : World) (x : Str) (t : Tok) : (mixKind prog w).is (.inr x) (.str x t) = true := keyIs_str x t
end L2
namespace L2
open PySem PySem.Spec PyProof.Rows
inductive V where
  | non | bl (b : Bool) | int (i : Int) | str (x : Str) | byt (b : Array UInt8) | flt (b : UInt64) | ref (a : Addr) | ty (n : String)
  deriving DecidableEq
def RelV : V -> Value -> Prop
  | .non, u => u = Value.none
  | .bl b, u => u = Value.bool b
  | .int i, u => ∃ t, u = Value.int i t
  | .str x, u => ∃ t, u = Value.str x t
  | .byt b, u => ∃ t, u = Value.bytes b t
  | .flt b, u => ∃ t, u = Value.float b t
  | .ref a, u => u = Value.ref a
  | .ty n, u => u = Value.type n
abbrev Vals : List V -> List Value -> Prop := Paired RelV
theorem Vals.length {xs : List V} {us : List Value} (r : Vals xs us) : xs.length = us.length := Paired.length r
theorem Vals.get : ∀ {xs : List V} {us : List Value} {i : Nat} {x : V}, Vals xs us -> xs[i]? = some x -> ∃ u, us[i]? = some u /\ RelV x u
  | _, _, _, _, .nil, e => by simp at e
  | _, _, 0, _, .cons r _, e => by simp at e; subst e; exact ⟨_, rfl, r⟩
  | _, _, i + 1, x, .cons _ t, e => by
    obtain ⟨u, h1, h2⟩ := Vals.get (i := i) (x := x) t (by simpa using e)
    exact ⟨u, by simpa using h1, h2⟩
theorem Vals.append : ∀ {xs ys : List V} {us ws : List Value}, Vals xs us -> Vals ys ws -> Vals (xs ++ ys) (us ++ ws)
  | _, _, _, _, .nil, s => s
  | _, _, _, _, .cons r t, s => .cons r (Vals.append t s)
theorem Vals.take : ∀ {xs : List V} {us : List Value} (n : Nat), Vals xs us -> Vals (xs.take n) (us.take n)
  | _, _, 0, _ => .nil
  | _, _, _ + 1, .nil => .nil
  | _, _, n + 1, .cons r t => .cons r (Vals.take n t)
theorem Vals.drop : ∀ {xs : List V} {us : List Value} (n : Nat), Vals xs us -> Vals (xs.drop n) (us.drop n)
  | _, _, 0, r => r
  | _, _, _ + 1, .nil => .nil
  | _, _, n + 1, .cons _ t => Vals.drop n t
def RelO : Option V -> Option Value -> Prop
  | some v, some u => RelV v u
  | none, none => True
  | _, _ => False
def KV {κ : Type} : List (κ × V) -> List (κ × Value) -> Prop := Paired fun (p : κ × V) (q : κ × Value) => p.1 = q.1 /\ RelV p.2 q.2
def kV : Key -> V
  | .inl i => .int i
  | .inr x => .str x
inductive HO where
  /-- a list -/
  | lst (xs : List V)
  /-- a tuple (never changes) -/
  | tup (xs : List V)
  /-- a dict whose keys are ints and texts; one whose keys are tuples of ints and texts (the empty one is both) -/
  | dK (kvs : List (Key × V)) | dT (kvs : List (List Key × V))
  /-- a set of ints: its members, its size -/
  | set (S : Int -> Bool) (n : Nat)
  /-- an instance of the class at C, its dict at dx, its attributes -/
  | ins (C dx : Addr) (fs : List (Str × V))
  /-- the dict of the instance at x -/
  | own (x : Addr)
  /-- the dict of an exception -/
  | xd (fs : List (Str × V))
  /-- a bound method, f of x -/
  | met (f x : Addr)
  /-- a range object lo, lo + 1, .. below hi -/
  | rng (lo hi : Int)
  /-- a thing that is known to the object (the script; a dict while a loop walks it): read, never written while it is so -/
  | frz (o : Obj) (u : HO)
  /-- a code object's table -/
  | tbl (ps : Array Value)
  /-- any other thing, by what is true of its one object (a def of one's own: SetO a S n := HO.ext fun h => ..) -/
  | ext (φ : Heap -> Prop)
abbrev Hp := Addr -> Option HO
def upd (H : Hp) (a : Addr) (o : HO) : Hp := fun b => if b = a then some o else H b
theorem upd_same {H : Hp} {a : Addr} {o : HO} : upd H a o a = some o := by unfold upd; rw [if_pos rfl]
theorem upd_ne {H : Hp} {a b : Addr} {o : HO} (h : b ≠ a) : upd H a o b = H b := by unfold upd; rw [if_neg h]
theorem ne_of {H : Hp} {a b : Addr} {o u : HO} (h : H a = some o) (h' : H b = some u) (d : o ≠ u) : a ≠ b := by
  intro e; subst e; rw [h] at h'; exact d (Option.some.inj h')
theorem ne_of_none {H : Hp} {a b : Addr} {o : HO} (h : H a = some o) (h' : H b = none) : a ≠ b := by
  intro e; subst e; rw [h] at h'; cases h'
def NoD (h : Heap) (a : Addr) : Prop := ∀ o, h.get? a = some o -> o.dict = none
theorem NoD.new (h : Heap) (o : Obj) (e : o.dict = none) (f : o.isFreed = false := by rfl) : NoD (h.push o) h.objs.size := fun u q => by
  rw [Heap.get?_push_size _ f] at q
  cases q
  exact e
def Pl (xs : List V) : Prop := ∃ x ∈ xs, ∀ a, x ≠ .ref a
def TpN (xs : List V) (h : Heap) (a : Addr) : Prop := Pl xs \/ NoD h a
theorem TpN.new {xs : List V} (h : Heap) (o : Obj) (e : o.dict = none) (f : o.isFreed = false := by rfl) : TpN xs (h.push o) h.objs.size := .inr (NoD.new h o e f)
theorem TpN.to {xs : List V} {h h' : Heap} {a : Addr} {o : Obj} (x : TpN xs h a) (e : h.get? a = some o) (e' : h'.get? a = some o) : TpN xs h' a := x.imp_right fun k u q => by
  rw [e'] at q
  cases q
  exact k o e
section
variable (P : Program) (w : World)
def ObjOk (H : Hp) (h : Heap) (a : Addr) : HO -> Prop
  | .lst xs => xs.length <= sizeLine /\ ∃ (its : List Value) (n : Nat), Vals xs its /\ h.get? a = some { cls := .type "list", data := .seq its.toArray n }
  | .tup xs => (xs.length <= sizeLine /\ TpN xs h a) /\ ∃ its : List Value, Vals xs its /\ IsTup h a its.toArray
  | .dK kvs => kvs.length <= sizeLine /\ (a == sysModules) = false /\ ∃ vs, KV kvs vs /\ h.DictOf (mixKind P w) a vs
  | .dT kvs => kvs.length <= sizeLine /\ (a == sysModules) = false /\ ∃ xs : List (List Key × Addr × Value),
      Paired (fun (p : List Key × V) (q : List Key × Addr × Value) => p.1 = q.1 /\ H q.2.1 = some (.tup (p.1.map kV)) /\ RelV p.2 q.2.2) kvs xs /\
      ∃ o es ep, h.get? a = some o /\ o.ExactDict /\ o.data = .dict es ep /\ es.toList = xs.map (entryOfKey (tupleKind (mixKind P w))) /\ (xs.map (·.1)).Nodup
  | .set S n => h.SetOf (intKind P w) a S n
  | .ins C dx fs => H dx = some (.own a) /\ fs.length <= 1000 /\ dx ≠ a /\ h.get? a = some (PySem.W.instObj C dx) /\
      ∃ mA, h.Ns1 dx mA /\ (∀ f, RelO (fs.lookup f) (mA f)) /\ PySem.Within mA (fs.map (·.1))
  | .own _ => ∃ o, h.get? a = some o
  | .xd fs => ∃ mA, h.Ns1 a mA /\ ∀ f, RelO (fs.lookup f) (mA f)
  | .rng lo hi => ∃ t u v, h.get? a = some { cls := .type "range", data := .fields #[.int lo t, .int hi u, .int 1 v] }
  | .frz o u => h.get? a = some o /\ ObjOk H h a u
  | .tbl ps => h.get? a = some { cls := .none, data := .fields ps }
  | .met f x => h.get? a = some (PySem.W.methodObj (.ref f) (.ref x))
  | .ext φ => φ h /\ (∃ o, h.get? a = some o) /\ ∀ h1 h2 : Heap, φ h1 -> (∀ o, h1.get? a = some o -> h2.get? a = some o) -> φ h2
def HOk (H : Hp) (h : Heap) : Prop := ∀ a o, H a = some o -> ObjOk P w H h a o
end
section
variable {P : Program} {w : World} {H H' : Hp} {h h' : Heap} {a : Addr} {o : HO}
theorem ObjOk.lt (x : ObjOk P w H h a o) : a < h.objs.size := by
  cases o with
  | lst xs => obtain ⟨_, _, _, _, e⟩ := x; exact Heap.lt_size e
  | tup xs => obtain ⟨_, _, _, p⟩ := x; exact p.lt
  | dK kvs => obtain ⟨_, _, _, _, o, _, _, e, _⟩ := x; exact Heap.lt_size e
  | dT kvs => obtain ⟨_, _, _, _, o, _, _, e, _⟩ := x; exact Heap.lt_size e
  | set S n => obtain ⟨o, _, _, _, e, _⟩ := x; exact Heap.lt_size e
  | ins C dx fs => obtain ⟨_, _, _, e, _⟩ := x; exact Heap.lt_size e
  | own y => obtain ⟨_, e⟩ := x; exact Heap.lt_size e
  | xd fs => obtain ⟨_, ⟨_, _, _, e, _⟩, _⟩ := x; exact Heap.lt_size e
  | rng lo hi => obtain ⟨_, _, _, e⟩ := x; exact Heap.lt_size e
  | frz ob u => obtain ⟨e, _⟩ := x; exact Heap.lt_size e
  | tbl ps => exact Heap.lt_size (show h.get? a = some _ from x)
  | met f y => exact Heap.lt_size (show h.get? a = some _ from x)
  | ext φ => obtain ⟨_, ⟨_, e⟩, _⟩ := x; exact Heap.lt_size e
theorem Paired.mapP {α β : Type} {F G : α -> β -> Prop} : ∀ {l₁ : List α} {l₂ : List β}, Paired F l₁ l₂ -> (∀ a b, F a b -> G a b) -> Paired G l₁ l₂
  | _, _, .nil, _ => .nil
  | _, _, .cons r t, f => .cons (f _ _ r) (Paired.mapP t f)
theorem ObjOk.stay (x : ObjOk P w H h a o) (k : ∀ b u, (b = a \/ H b = some (.own a)) -> h.get? b = some u -> h'.get? b = some u)
    (ho : ∀ b, H b = some (.own a) -> H' b = some (.own a)) (ht : ∀ b xs, H b = some (.tup xs) -> H' b = some (.tup xs)) : ObjOk P w H' h' a o := by
  induction o with
  | lst xs => obtain ⟨z, its, n, r, e⟩ := x; exact ⟨z, its, n, r, k _ _ (.inl rfl) e⟩
  | tup xs => obtain ⟨z, its, r, ob, e, c⟩ := x; exact ⟨⟨z.1, z.2.to e (k _ _ (.inl rfl) e)⟩, its, r, ob, k _ _ (.inl rfl) e, c⟩
  | dK kvs => obtain ⟨z, y, vs, r, ob, es, ep, e, c⟩ := x; exact ⟨z, y, vs, r, ob, es, ep, k _ _ (.inl rfl) e, c⟩
  | dT kvs =>
    obtain ⟨z, y, xs, r, ob, es, ep, e, c⟩ := x
    exact ⟨z, y, xs, Paired.mapP r fun p q z => ⟨z.1, ht _ _ z.2.1, z.2.2⟩, ob, es, ep, k _ _ (.inl rfl) e, c⟩
  | set S n => obtain ⟨ob, es, ep, t, e, c⟩ := x; exact ⟨ob, es, ep, t, k _ _ (.inl rfl) e, c⟩
  | ins C dx fs =>
    obtain ⟨d, z, ne, e, mA, ⟨od, es, ep, e2, c⟩, r⟩ := x
    exact ⟨ho _ d, z, ne, k _ _ (.inl rfl) e, mA, ⟨od, es, ep, k _ _ (.inr d) e2, c⟩, r⟩
  | own y => obtain ⟨ob, e⟩ := x; exact ⟨ob, k _ _ (.inl rfl) e⟩
  | xd fs => obtain ⟨mA, ⟨od, es, ep, e, c⟩, r⟩ := x; exact ⟨mA, ⟨od, es, ep, k _ _ (.inl rfl) e, c⟩, r⟩
  | rng lo hi => obtain ⟨t, u, v, e⟩ := x; exact ⟨t, u, v, k _ _ (.inl rfl) e⟩
  | frz ob u ih => obtain ⟨e, q⟩ := x; exact ⟨k _ _ (.inl rfl) e, ih q⟩
  | tbl ps =>
    have e : h.get? a = some { cls := .none, data := .fields ps } := x
    show h'.get? a = some { cls := .none, data := .fields ps }
    exact k a _ (.inl rfl) e
  | met f y =>
    have e : h.get? a = some (PySem.W.methodObj (.ref f) (.ref y)) := x
    show h'.get? a = some (PySem.W.methodObj (.ref f) (.ref y))
    exact k a _ (.inl rfl) e
  | ext φ => obtain ⟨p, ⟨o, e⟩, st⟩ := x; exact ⟨st _ _ p fun o q => k _ _ (.inl rfl) q, ⟨o, k _ _ (.inl rfl) e⟩, st⟩
theorem HOk.lt (x : HOk P w H h) (e : H a = some o) : a < h.objs.size := (x a o e).lt
theorem HOk.fresh (x : HOk P w H h) (e : h.objs.size <= a) : H a = none := by
  cases q : H a with
  | none => rfl
  | some u => exact absurd (Nat.lt_of_lt_of_le (x.lt q) e) (Nat.lt_irrefl _)
theorem HOk.kept (x : HOk P w H h) (k : ∀ b u, h.get? b = some u -> h'.get? b = some u) : HOk P w H h' := fun a o e =>
  (x a o e).stay (fun b u _ q => k b u q) (fun _ q => q) fun _ _ q => q
theorem HOk.laid (x : HOk P w H h) (k : ∀ b u, h.get? b = some u -> h'.get? b = some u) (hp : h.objs.size <= a) (new : ObjOk P w (upd H a o) h' a o) : HOk P w (upd H a o) h' := fun b u e => by
  have hn := x.fresh hp
  by_cases hb : b = a
  · subst hb; rw [upd_same] at e; cases e; exact new
  · rw [upd_ne hb] at e
    exact (x b u e).stay (fun c v _ q => k c v q) (fun c q => by rw [upd_ne (ne_of_none q hn)]; exact q) fun c xs q => by rw [upd_ne (ne_of_none q hn)]; exact q
end
def Rd (H : Hp) (a : Addr) (u : HO) : Prop := H a = some u \/ ∃ o, H a = some (.frz o u)
theorem Rd.ok {P : Program} {w : World} {H : Hp} {h : Heap} {a : Addr} {u : HO} (r : Rd H a u) (x : HOk P w H h) : ObjOk P w H h a u := by
  rcases r with r | ⟨o, r⟩
  · exact x a u r
  · obtain ⟨_, q⟩ := x a _ r
    exact q
def Mut : Option HO -> Prop
  | some (.lst _) => True
  | some (.dK _) => True
  | some (.dT _) => True
  | some (.set _ _) => True
  | some (.ins _ _ _) => True
  | some (.ext _) => True
  | _ => False
section
variable {P : Program} {w : World} {H : Hp} {h h' : Heap} {x e : Addr} {o' : HO}
theorem HOk.write (ok : HOk P w H h) (mu : Mut (H x)) (he : e = x \/ H e = some (.own x)) (k : ∀ b u, b ≠ e -> h.get? b = some u -> h'.get? b = some u) (heo : ∃ u, h'.get? e = some u)
    (new : ObjOk P w (upd H x o') h' x o') : HOk P w (upd H x o') h' := fun b u q => by
  have nown : ∀ c y, H c = some (.own y) -> c ≠ x := fun c y r z => by subst z; rw [r] at mu; exact mu
  have ntup : ∀ c xs, H c = some (.tup xs) -> c ≠ x := fun c xs r z => by subst z; rw [r] at mu; exact mu
  by_cases hb : b = x
  · subst hb; rw [upd_same] at q; cases q; exact new
  · rw [upd_ne hb] at q
    by_cases hbe : b = e
    · have q' : H b = some (.own x) := by
        rcases he with z | z
        · exact absurd (hbe.trans z) hb
        · rw [hbe]; exact z
      rw [q] at q'; cases q'
      obtain ⟨v, hv⟩ := heo
      exact ⟨v, by rw [hbe]; exact hv⟩
    · refine (ok b u q).stay (fun c v hc r => k c v ?_ r) (fun c r => by rw [upd_ne (nown c b r)]; exact r) fun c xs r => by rw [upd_ne (ntup c xs r)]; exact r
      rcases hc with rfl | hc
      · exact hbe
      · rintro rfl
        rcases he with z | z
        · exact nown c b hc z
        · rw [hc] at z; cases z; exact hb rfl
end
structure Un (fs ex : List Addr) (H H' : Hp) (h h' : Heap) : Prop where
  keep : ∀ b o, h.get? b = some o -> H b = none -> b ∉ fs -> b ∉ ex -> h'.get? b = some o
  slot : ∀ b o, h.get? b = some o -> H b = none -> b ∈ fs -> b ∉ ex -> ∃ sl, h'.get? b = some { o with slots := sl }
  free : ∀ b o, h.get? b = some o -> H b = none -> b ∉ ex -> H' b = none
  there : ∀ b o, h.get? b = some o -> b ∉ ex -> ∃ o', h'.get? b = some o'
  tups : ∀ b xs, H b = some (.tup xs) -> H' b = some (.tup xs)
  frzs : ∀ b o u, H b = some (.frz o u) -> H' b = some (.frz o u)
  tbls : ∀ b ps, H b = some (.tbl ps) -> ∃ more, H' b = some (.tbl (ps ++ more))
section
variable {fs fs' ex ex' : List Addr} {H H1 H2 : Hp} {h h1 h2 h' : Heap} {a x e : Addr} {o : HO}
theorem Un.any (u : Un fs ex H H1 h h1) {b : Addr} {ob : Obj} (q : h.get? b = some ob) (n : H b = none) (hx : b ∉ ex) : ∃ sl, h1.get? b = some { ob with slots := sl } := by
  by_cases hb : b ∈ fs
  · exact u.slot b ob q n hb hx
  · exact ⟨ob.slots, u.keep b ob q n hb hx⟩
theorem Un.kept (k : ∀ b u, h.get? b = some u -> h'.get? b = some u) : Un fs ex H H h h' :=
  ⟨fun b ob q _ _ _ => k b ob q, fun b ob q _ _ _ => ⟨ob.slots, k b ob q⟩, fun _ _ _ n _ => n, fun b ob q _ => ⟨ob, k b ob q⟩, fun _ _ q => q, fun _ _ _ q => q, fun _ ps q => ⟨#[], by rw [q]; simp⟩⟩
theorem Un.refl : Un fs ex H H h h := Un.kept fun _ _ q => q
theorem Un.laid (k : ∀ b u, h.get? b = some u -> h'.get? b = some u) (hp : h.objs.size <= a) (hn : H a = none) : Un fs ex H (upd H a o) h h' where
  keep := fun b u q _ _ _ => k b u q
  slot := fun b u q _ _ _ => ⟨u.slots, k b u q⟩
  free := fun b u q n _ => by rw [upd_ne (Nat.ne_of_lt (Nat.lt_of_lt_of_le (Heap.lt_size q) hp))]; exact n
  there := fun b u q _ => ⟨u, k b u q⟩
  tups := fun b xs q => by rw [upd_ne (ne_of_none q hn)]; exact q
  frzs := fun b u xs q => by rw [upd_ne (ne_of_none q hn)]; exact q
  tbls := fun b ps q => ⟨#[], by rw [upd_ne (ne_of_none q hn), q]; simp⟩
theorem Un.write (mu : Mut (H x)) (he : e = x \/ H e = some (.own x)) (k : ∀ b u, b ≠ e -> h.get? b = some u -> h'.get? b = some u) (heo : ∃ u, h'.get? e = some u) : Un fs ex H (upd H x o) h h' := by
  have hx : ∀ b, H b = none -> b ≠ x := fun b n z => by subst z; rw [n] at mu; exact mu
  have hb : ∀ b, H b = none -> b ≠ e := fun b n z => by
    subst z
    rcases he with r | r
    · exact hx b n r
    · rw [n] at r; cases r
  have hm : ∀ b u, H b = some u -> ¬ Mut (some u) -> b ≠ x := fun b u q nm z => by subst z; rw [q] at mu; exact nm mu
  refine ⟨fun b u q n _ _ => k b u (hb b n) q, fun b u q n _ _ => ⟨u.slots, k b u (hb b n) q⟩, fun b u q n _ => by rw [upd_ne (hx b n)]; exact n, fun b u q _ => ?_,
    fun b xs q => by rw [upd_ne (hm b _ q fun z => z)]; exact q, fun b u xs q => by rw [upd_ne (hm b _ q fun z => z)]; exact q, fun b ps q => ⟨#[], by rw [upd_ne (hm b _ q fun z => z), q]; simp⟩⟩
  by_cases hbe : b = e
  · subst hbe; exact heo
  · exact ⟨u, k b u hbe q⟩
end
def trk (h : Heap) (H : Hp) : List Addr := (List.range h.objs.size).filter fun a => (H a).isSome
def hidT (h : Heap) (H : Hp) : Heap := PySem.W.hideAll h (trk h H)
theorem hidT_size (h : Heap) (H : Hp) : (hidT h H).objs.size = h.objs.size := PySem.W.hideAll_size _ _
theorem hidT_get {h : Heap} {H : Hp} {b : Addr} {o : Obj} (e : h.get? b = some o) (n : H b = none) : (hidT h H).get? b = some o :=
  PySem.W.hideAll_get _ e fun hm => by
    have q : (H b).isSome = true := (List.mem_filter.mp hm).2
    rw [n] at q; simp at q
theorem of_hidT {h : Heap} {H : Hp} {b : Addr} {o : Obj} (e : (hidT h H).get? b = some o) : h.get? b = some o /\ H b = none := by
  have e' : h.get? b = some o := PySem.W.of_hideAll (trk h H) e
  refine ⟨e', ?_⟩
  cases q : H b with
  | none => rfl
  | some x =>
    have hm : b ∈ trk h H := List.mem_filter.mpr ⟨List.mem_range.mpr (Heap.lt_size e'), by simp [q]⟩
    have z : (hidT h H).get? b = none := PySem.W.hideAll_none (trk h H) hm
    rw [z] at e; cases e
end L2
namespace L2
open PySem PySem.Spec PyProof.Rows
structure Mod (K : PySem.W.Frag) (mg : Str -> Option Value) (base : Heap) : Prop where
  kin : K.In base
  glob : base.Ns mainGlobals mg
  blt : ∃ mb, base.Ns builtinsNs mb /\ ∀ x : Str, x ≠ "__name__" -> mb x = bootBuiltins x
  nolimit : base.NoLimit
structure Cx where
  prog : Program
  w : World
  K : PySem.W.Frag
  mg : Str -> Option Value
  base : Heap
  A : Around
  N : List Str
  s₀ : Shared
  H₀ : Hp
  env : Env
  outer : List Env
  stack : List Env
  ex : List Addr
  fn : Str -> Bool
  calm : Bool
  pn : List (Addr × Obj)
  xe : Value -> Shared -> Prop
def frs (l : List Env) : List Addr := l.filterMap (·.frame)
abbrev Cx.fs (X : Cx) : List Addr := frs X.outer
def Vis (sc : Scope) (x : Str) : Prop := sc.names.lookup x = some .local \/ sc.names.lookup x = some .cell \/ sc.names.lookup x = some .free
def Loc (sc : Scope) (x : Str) : Prop := sc.names.lookup x = some .local \/ sc.names.lookup x = some .cell
def Look (env : Env) (h : Heap) (m : Str -> Option Value) (x : Str) (u : Value) : Prop :=
  (env.kindOf x = some .local /\ m x = some u) \/ ((env.kindOf x = some .cell \/ env.kindOf x = some .free) /\ ∃ c, env.cells.lookup x = some c /\ h.IsCell c (some u))
structure Cx.Ok (X : Cx) : Prop where
  mod : Mod X.K X.mg X.base
  kind : X.env.scope.kind = .function
  glob : X.env.globals = mainGlobals
  blt : X.env.builtins = builtinsNs
  above : X.s₀.heap.objs.size <= X.env.locals
  inj : ∀ x y c, X.env.cells.lookup x = some c -> X.env.cells.lookup y = some c -> x = y
  has : ∀ x, (X.env.kindOf x = some .cell \/ X.env.kindOf x = some .free) -> ∃ c, X.env.cells.lookup x = some c
  cab : ∀ x c, X.fn x = true -> X.env.cells.lookup x = some c -> X.s₀.heap.objs.size <= c
  hd : X.calm = true -> X.A.handled = none
  frames : X.A.frames = some X.stack
  stk : X.stack = X.outer \/ (X.stack = X.env :: X.outer /\ X.env.frame = some X.env.locals)
  exf : ∀ b ∈ X.ex, b ≠ X.env.locals /\ ∀ x c, X.env.cells.lookup x = some c -> c ≠ b
  bs : ∀ b o, X.base.get? b = some o -> X.s₀.heap.get? b = some o /\ X.H₀ b = none
  bsz : X.base.objs.size <= X.s₀.heap.objs.size
  noex : ∀ b o, X.base.get? b = some o -> b ∉ X.ex
  exfs : ∀ b ∈ X.ex, b ∉ X.fs
  funs : X.s₀.heap.FunFrames X.base X.outer
  frf : ∀ b ∈ X.fs, X.H₀ b = none
structure Inv (X : Cx) (pins : List (Addr × Obj)) (σ : List (Option V)) (H : Hp) (s : Shared) : Prop where
  ok : X.Ok
  os : s.os = X.s₀.os
  bare : AllBare s.gens
  base : Un X.fs X.ex X.H₀ H X.s₀.heap s.heap
  loc : ∃ m, s.heap.Ns X.env.locals m /\ ∀ (i : Nat) (x : Str) (v : V), X.N[i]? = some x -> σ[i]? = some (some v) -> Vis X.env.scope x -> ∃ u, RelV v u /\ Look X.env s.heap m x u
  cell : ∀ x c, X.env.cells.lookup x = some c -> ∃ v, s.heap.IsCell c v
  free : H X.env.locals = none
  freeC : ∀ x c, X.env.cells.lookup x = some c -> H c = none
  pin : ∀ p ∈ X.pn ++ pins, s.heap.get? p.1 = some p.2 /\ H p.1 = none /\ p.1 ≠ X.env.locals /\ p.1 ∉ X.fs /\ ∀ v, p.2.data ≠ .cell v
  hok : HOk X.prog X.w H s.heap
  len : σ.length = X.N.length
section
variable {X : Cx} {pins : List (Addr × Obj)} {σ : List (Option V)} {H H' : Hp} {s : Shared} {h' : Heap}
theorem Cx.Ok.nofr (ok : X.Ok) {b : Addr} {o : Obj} (e : X.base.get? b = some o) : b ∉ X.fs := fun hb => by
  have := (ok.funs.mem hb).1
  rw [e] at this; cases this
theorem Inv.bs (I : Inv X pins σ H s) : ∀ b o, X.base.get? b = some o -> s.heap.get? b = some o /\ H b = none := fun b o e =>
  ⟨I.base.keep b o (I.ok.bs b o e).1 (I.ok.bs b o e).2 (I.ok.nofr e) (I.ok.noex b o e), I.base.free b o (I.ok.bs b o e).1 (I.ok.bs b o e).2 (I.ok.noex b o e)⟩
theorem Inv.bk (I : Inv X pins σ H s) : ∀ b o, X.base.get? b = some o -> s.heap.get? b = some o := fun b o e => (I.bs b o e).1
theorem Inv.mod (I : Inv X pins σ H s) : Mod X.K X.mg X.base := I.ok.mod
theorem Inv.kIn (I : Inv X pins σ H s) : X.K.In s.heap := I.ok.mod.kin.keeps I.bk
theorem Inv.lt (I : Inv X pins σ H s) : X.env.locals < s.heap.objs.size := let ⟨_, hn, _⟩ := I.loc; hn.lt
theorem Inv.sz (I : Inv X pins σ H s) : X.s₀.heap.objs.size <= s.heap.objs.size := Nat.le_trans I.ok.above (Nat.le_of_lt I.lt)
theorem Inv.nofs (I : Inv X pins σ H s) {a : Addr} (h : s.heap.objs.size <= a) : a ∉ X.fs := fun hb => by
  obtain ⟨_, o, ho, _⟩ := I.ok.funs.mem hb
  exact absurd (Nat.lt_of_lt_of_le (Heap.lt_size ho) (Nat.le_trans I.sz h)) (Nat.lt_irrefl _)
theorem Inv.cne (I : Inv X pins σ H s) : ∀ x c, X.env.cells.lookup x = some c -> c ≠ X.env.locals := fun x c e z => by
  obtain ⟨v, o, ho, hd⟩ := I.cell x c e
  obtain ⟨m, ⟨o', es, ep, ho', hd', _⟩, _⟩ := I.loc
  rw [z, ho'] at ho; cases ho; rw [hd'] at hd; cases hd
theorem Inv.funs (I : Inv X pins σ H s) : s.heap.FunFrames X.base X.outer := by
  have all : ∀ (l : List Env), (∀ b ∈ frs l, b ∈ X.fs) -> X.s₀.heap.FunFrames X.base l -> s.heap.FunFrames X.base l := by
    intro l
    induction l with
    | nil => intro _ _; trivial
    | cons env r ih =>
      intro hs hl
      obtain ⟨hk, ⟨L, o, hf, hn, ho, hd⟩, hr⟩ := hl
      have hL : L ∈ X.fs := hs L (by unfold frs; rw [List.filterMap_cons, hf]; exact List.mem_cons_self)
      obtain ⟨sl, e⟩ := I.base.slot L o ho (I.ok.frf L hL) hL fun z => I.ok.exfs L z hL
      exact ⟨hk, ⟨L, _, hf, hn, e, hd⟩, ih (fun b hb => hs b (by unfold frs; rw [List.filterMap_cons, hf]; exact List.mem_cons_of_mem _ hb)) hr⟩
  exact all X.outer (fun _ hb => hb) I.ok.funs
theorem Inv.stack (I : Inv X pins σ H s) : s.heap.FunFrames X.base X.stack := by
  rcases I.ok.stk with e | ⟨e, hf⟩
  · rw [e]; exact I.funs
  · rw [e]
    obtain ⟨m, hn, _⟩ := I.loc
    refine .cons (by rw [I.ok.kind]; decide) hf hn ?_ I.funs
    exact Heap.get?_none_of_le (Nat.le_trans I.ok.bsz I.ok.above)
theorem Inv.stkSub (I : Inv X pins σ H s) : ∀ b ∈ frs X.stack, b ∈ X.env.locals :: X.fs := fun b hb => by
  rcases I.ok.stk with e | ⟨e, hf⟩
  · rw [e] at hb; exact List.mem_cons_of_mem _ hb
  · rw [e] at hb
    unfold frs at hb
    rw [List.filterMap_cons, hf] at hb
    exact hb
theorem Inv.stkFree (I : Inv X pins σ H s) : ∀ b ∈ frs X.stack, H b = none := fun b hb => by
  rcases List.mem_cons.mp (I.stkSub b hb) with e | hb
  · rw [e]; exact I.free
  · obtain ⟨_, o, ho, _⟩ := I.ok.funs.mem hb
    exact I.base.free b o ho (I.ok.frf b hb) fun z => I.ok.exfs b z hb
theorem Inv.step {g' : Array GenState} {t' : Nat} {d' : Drawn} {ch : List Addr} (I : Inv X pins σ H s)
    (hch : ∀ b ∈ ch, (b ∈ X.ex \/ X.s₀.heap.objs.size <= b) /\ b ≠ X.env.locals /\ (∀ x c, X.env.cells.lookup x = some c -> c ≠ b) /\ ∀ p ∈ X.pn ++ pins, p.1 ≠ b)
    (keep : ∀ b o, b ≠ X.env.locals -> b ∉ X.fs -> b ∉ ch -> s.heap.get? b = some o -> H b = none -> h'.get? b = some o)
    (slot : ∀ b o, b ≠ X.env.locals -> b ∈ X.fs -> b ∉ ch -> s.heap.get? b = some o -> H b = none -> ∃ sl, h'.get? b = some { o with slots := sl }) (free : ∀ b o, b ∉ ch -> s.heap.get? b = some o -> H b = none -> H' b = none)
    (there : ∀ b o, b ∉ ch -> s.heap.get? b = some o -> ∃ o', h'.get? b = some o')
    (tups : ∀ b xs, H b = some (.tup xs) -> H' b = some (.tup xs)) (frzs : ∀ b o u, H b = some (.frz o u) -> H' b = some (.frz o u)) (tbls : ∀ b ps, H b = some (.tbl ps) -> ∃ more, H' b = some (.tbl (ps ++ more)))
    (ns : ∀ m, s.heap.Ns X.env.locals m -> h'.Ns X.env.locals m) (hok : HOk X.prog X.w H' h') (hg : AllBare g') :
    Inv X pins σ H' { s with heap := h', gens := g', drawn := d', toks := t' } := by
  have neL : ∀ b o, X.s₀.heap.get? b = some o -> b ≠ X.env.locals := fun b o e => Nat.ne_of_lt (Nat.lt_of_lt_of_le (Heap.lt_size e) I.ok.above)
  have neC : ∀ b o, X.s₀.heap.get? b = some o -> b ∉ X.ex -> b ∉ ch := fun b o e hx hb => by
    rcases (hch b hb).1 with z | z
    · exact hx z
    · exact absurd (Nat.lt_of_lt_of_le (Heap.lt_size e) z) (Nat.lt_irrefl _)
  have cellK : ∀ x c, X.env.cells.lookup x = some c -> ∀ v, s.heap.IsCell c v -> h'.IsCell c v := fun x c e v ⟨o, ho, hd⟩ => by
    have nch : c ∉ ch := fun z => (hch c z).2.2.1 x c e rfl
    by_cases hc : c ∈ X.fs
    · obtain ⟨sl, q⟩ := slot c o (I.cne x c e) hc nch ho (I.freeC x c e)
      exact ⟨_, q, hd⟩
    · exact ⟨o, keep c o (I.cne x c e) hc nch ho (I.freeC x c e), hd⟩
  refine ⟨I.ok, I.os, hg, ⟨fun b o e n hb hx => ?_, fun b o e n hb hx => ?_, fun b o e n hx => ?_, fun b o e hx => ?_, fun b xs e => tups b xs (I.base.tups b xs e), fun b o xs e => frzs b o xs (I.base.frzs b o xs e), fun b ps e => ?_⟩, ?_, fun x c e => ?_, ?_, fun x c e => ?_, fun p hp => ?_, hok, I.len⟩
  · exact keep b o (neL b o e) hb (neC b o e hx) (I.base.keep b o e n hb hx) (I.base.free b o e n hx)
  · obtain ⟨sl, e1⟩ := I.base.slot b o e n hb hx
    obtain ⟨sl', e2⟩ := slot b _ (neL b o e) hb (neC b o e hx) e1 (I.base.free b o e n hx)
    exact ⟨sl', e2⟩
  · obtain ⟨o', e1⟩ := I.base.there b o e hx
    exact free b o' (neC b o e hx) e1 (I.base.free b o e n hx)
  · obtain ⟨o', e1⟩ := I.base.there b o e hx
    exact there b o' (neC b o e hx) e1
  · obtain ⟨m1, e1⟩ := I.base.tbls b ps e
    obtain ⟨m2, e2⟩ := tbls b _ e1
    exact ⟨m1 ++ m2, by rw [e2, Array.append_assoc]⟩
  · obtain ⟨m, hn, hl⟩ := I.loc
    refine ⟨m, ns m hn, fun i x v e1 e2 e3 => ?_⟩
    obtain ⟨u, r, l⟩ := hl i x v e1 e2 e3
    refine ⟨u, r, ?_⟩
    rcases l with l | ⟨k, c, e, z⟩
    · exact .inl l
    · exact .inr ⟨k, c, e, cellK x c e _ z⟩
  · obtain ⟨v, z⟩ := I.cell x c e
    exact ⟨v, cellK x c e v z⟩
  · obtain ⟨m, ⟨o, _, _, ho, _⟩, _⟩ := I.loc
    exact free _ o (fun z => (hch _ z).2.1 rfl) ho I.free
  · obtain ⟨v, o, ho, hd⟩ := I.cell x c e
    exact free c o (fun z => (hch c z).2.2.1 x c e rfl) ho (I.freeC x c e)
  · obtain ⟨e, n, ne, nf, d⟩ := I.pin p hp
    have nch : p.1 ∉ ch := fun z => (hch p.1 z).2.2.2 p hp rfl
    exact ⟨keep p.1 p.2 ne nf nch e n, free p.1 p.2 nch e n, ne, nf, d⟩
theorem Inv.un {t' : Nat} (I : Inv X pins σ H s) (u : Un X.fs [] H H' s.heap h') (hok : HOk X.prog X.w H' h') : Inv X pins σ H' { s with heap := h', toks := t' } := by
  obtain ⟨m, ⟨o, es, ep, ho, r⟩, _⟩ := id I.loc
  obtain ⟨sl, hL⟩ := u.any ho I.free (by simp)
  exact I.step (g' := s.gens) (d' := s.drawn) (ch := []) (fun _ z => nomatch z) (fun b o _ hb _ e n => u.keep b o e n hb (by simp)) (fun b o _ hb _ e n => u.slot b o e n hb (by simp)) (fun b o _ e n => u.free b o e n (by simp)) (fun b o _ e => u.there b o e (by simp)) u.tups u.frzs u.tbls (fun m' hm => by
    obtain ⟨o', es', ep', ho', r'⟩ := hm
    rw [ho] at ho'; cases ho'
    exact ⟨_, es', ep', hL, r'⟩) hok I.bare
theorem Inv.call {g' : Array GenState} {t' : Nat} {d' : Drawn} {ch : List Addr} (I : Inv X pins σ H s) (u : Un (frs X.stack) ch H H' s.heap h') (hok : HOk X.prog X.w H' h') (hg : AllBare g')
    (hch : ∀ b ∈ ch, (b ∈ X.ex \/ X.s₀.heap.objs.size <= b) /\ b ≠ X.env.locals /\ (∀ x c, X.env.cells.lookup x = some c -> c ≠ b) /\ ∀ p ∈ X.pn ++ pins, p.1 ≠ b) :
    Inv X pins σ H' { s with heap := h', gens := g', drawn := d', toks := t' } := by
  obtain ⟨m, ⟨o, es, ep, ho, r⟩, _⟩ := id I.loc
  obtain ⟨sl, hL⟩ := u.any ho I.free fun z => (hch _ z).2.1 rfl
  exact I.step (ch := ch) hch (fun b o hL hb hc e n => u.keep b o e n (fun z => (List.mem_cons.mp (I.stkSub b z)).elim hL hb) hc) (fun b o _ _ hc e n => u.any e n hc) (fun b o hc e n => u.free b o e n hc) (fun b o hc e => u.there b o e hc) u.tups u.frzs u.tbls (fun m' hm => by
    obtain ⟨o', es', ep', ho', r'⟩ := hm
    rw [ho] at ho'; cases ho'
    exact ⟨_, es', ep', hL, r'⟩) hok hg
theorem Inv.turned {t' : Nat} {it : Addr} (I : Inv X pins σ H s) (k : ∀ b o, b ≠ it -> s.heap.get? b = some o -> h'.get? b = some o) (hn : H it = none) (hL : it ≠ X.env.locals)
    (h1 : it ∈ X.ex \/ X.s₀.heap.objs.size <= it) (h2 : ∀ x c, X.env.cells.lookup x = some c -> c ≠ it) (h3 : ∀ p ∈ X.pn ++ pins, p.1 ≠ it) : Inv X pins σ H { s with heap := h', toks := t' } := by
  have nit : ∀ b u, H b = some u -> b ≠ it := fun b u e z => by rw [z, hn] at e; cases e
  refine I.step (g' := s.gens) (d' := s.drawn) (ch := [it]) (fun b hb => ?_) (fun b o _ _ hc e _ => k b o (fun z => hc (by simp [z])) e) (fun b o _ _ hc e _ => ⟨o.slots, k b o (fun z => hc (by simp [z])) e⟩) (fun _ _ _ _ n => n)
    (fun b o hc e => ⟨o, k b o (fun z => hc (by simp [z])) e⟩) (fun _ _ e => e) (fun _ _ _ e => e) (fun b ps e => ⟨#[], by rw [e]; simp⟩) (fun m hm => ?_) (fun b u e => ?_) I.bare
  · have e : b = it := by simpa using hb
    subst e
    exact ⟨h1, hL, h2, h3⟩
  · obtain ⟨o, es, ep, ho, r⟩ := hm
    exact ⟨o, es, ep, k _ o (Ne.symm hL) ho, r⟩
  · refine (I.hok b u e).stay (fun c v hc q => k c v ?_ q) (fun _ q => q) fun _ _ q => q
    rcases hc with z | z
    · rw [z]; exact nit b u e
    · exact nit c _ z
theorem Inv.tok (I : Inv X pins σ H s) (t : Nat) : Inv X pins σ H { s with toks := t } := I.un (h' := s.heap) (t' := t) Un.refl I.hok
theorem Inv.kept {t' : Nat} (I : Inv X pins σ H s) (k : ∀ b u, s.heap.get? b = some u -> h'.get? b = some u) : Inv X pins σ H { s with heap := h', toks := t' } := I.un (Un.kept k) (I.hok.kept k)
theorem Inv.laid {a : Addr} {o : HO} {t' : Nat} (I : Inv X pins σ H s) (k : ∀ b u, s.heap.get? b = some u -> h'.get? b = some u) (hp : s.heap.objs.size <= a) (new : ObjOk X.prog X.w (upd H a o) h' a o) :
    Inv X pins σ (upd H a o) { s with heap := h', toks := t' } := I.un (Un.laid k hp (I.hok.fresh hp)) (I.hok.laid k hp new)
theorem Inv.write {x e : Addr} {o : HO} {t' : Nat} (I : Inv X pins σ H s) (mu : Mut (H x)) (he : e = x \/ H e = some (.own x)) (k : ∀ b u, b ≠ e -> s.heap.get? b = some u -> h'.get? b = some u) (heo : ∃ u, h'.get? e = some u)
    (new : ObjOk X.prog X.w (upd H x o) h' x o) : Inv X pins σ (upd H x o) { s with heap := h', toks := t' } := I.un (Un.write mu he k heo) (I.hok.write mu he k heo new)
theorem Inv.weak {σ' : List (Option V)} (I : Inv X pins σ H s) (hl : σ'.length = σ.length) (w : ∀ (i : Nat) v, σ'[i]? = some (some v) -> σ[i]? = some (some v)) : Inv X pins σ' H s :=
  ⟨I.ok, I.os, I.bare, I.base, let ⟨m, hn, hl'⟩ := I.loc; ⟨m, hn, fun i x v e1 e2 e3 => hl' i x v e1 (w i v e2) e3⟩, I.cell, I.free, I.freeC, I.pin, I.hok, hl.trans I.len⟩
theorem Inv.pins_of {pins' : List (Addr × Obj)} (I : Inv X pins σ H s) (h : ∀ p ∈ pins', s.heap.get? p.1 = some p.2 /\ H p.1 = none /\ p.1 ≠ X.env.locals /\ p.1 ∉ X.fs /\ ∀ v, p.2.data ≠ .cell v) : Inv X pins' σ H s :=
  ⟨I.ok, I.os, I.bare, I.base, I.loc, I.cell, I.free, I.freeC, fun p hp => (List.mem_append.mp hp).elim (fun z => I.pin p (List.mem_append_left _ z)) (h p), I.hok, I.len⟩
theorem nodup_ix {N : List Str} (hN : N.Nodup) {i j : Nat} {x : Str} (a : N[i]? = some x) (b : N[j]? = some x) : i = j := by
  obtain ⟨h1, e1⟩ := List.getElem?_eq_some_iff.mp a
  obtain ⟨h2, e2⟩ := List.getElem?_eq_some_iff.mp b
  exact (List.getElem_inj hN).mp (e1.trans e2.symm)
theorem store_ok2 {M : Model} {A : Around} {E : Value -> Shared -> Prop} {i : Nat} {x : Str} {v : V} {u : Value} {Q : Unit -> Shared -> Prop} (I : Inv X pins σ H s) (hN : X.N.Nodup) (hi : X.N[i]? = some x) (hx : Loc X.env.scope x) (r : RelV v u)
    (h : ∀ s', Inv X pins (σ.set i (some v)) H s' -> (∃ a, Heap.SameBut a s.heap s'.heap /\ (a = X.env.locals \/ X.env.cells.lookup x = some a)) -> Q () s') (hf : X.fn x = true \/ X.env.scope.names.lookup x = some .local := by first | exact .inl rfl | exact .inr rfl | assumption) : wpAny M A (storeName X.env x u) Q E s := by
  obtain ⟨m, hn, hl⟩ := id I.loc
  have hcls : (X.env.scope.kind == .class || (X.env.scope.kind == .module && X.env.locals != X.env.globals)) = false := by rw [I.ok.kind]; rfl
  have hiσ : i < σ.length := by rw [I.len]; exact (List.getElem?_eq_some_iff.mp hi).1
  have cne := I.cne
  have tracked : ∀ {a : Addr} {h' : Heap}, (∃ o, s.heap.get? a = some o /\ H a = none) -> Heap.SameBut a s.heap h' -> HOk X.prog X.w H h' := fun {a h'} ha hs b ob e => by
    obtain ⟨_, _, hfree⟩ := ha
    refine (I.hok b ob e).stay (fun c w' hc q => (hs.2 c ?_).trans q) (fun _ q => q) fun _ _ q => q
    rintro rfl
    rcases hc with rfl | hc
    · rw [hfree] at e; cases e
    · rw [hfree] at hc; cases hc
  rcases hx with hk | hk
  · refine wpAny_storeName_local hk hn (fun h' hn' hs => ?_) hcls
    obtain ⟨oL, _, _, hoL, _⟩ := id hn
    refine h _ ⟨I.ok, I.os, I.bare, ⟨fun b o e n hb hx => ?_, fun b o e n hb hx => ?_, I.base.free, fun b o e hx => ?_, I.base.tups, I.base.frzs, I.base.tbls⟩, ⟨_, hn', fun j y v' e1 e2 e3 => ?_⟩, fun y c e => ?_, I.free, I.freeC, fun p hp => ?_, tracked ⟨oL, hoL, I.free⟩ hs, by simpa using I.len⟩ ⟨_, hs, .inl rfl⟩
    · exact (hs.2 b (Nat.ne_of_lt (Nat.lt_of_lt_of_le (Heap.lt_size e) I.ok.above))).trans (I.base.keep b o e n hb hx)
    · obtain ⟨sl, e1⟩ := I.base.slot b o e n hb hx
      exact ⟨sl, (hs.2 b (Nat.ne_of_lt (Nat.lt_of_lt_of_le (Heap.lt_size e) I.ok.above))).trans e1⟩
    · obtain ⟨o', e1⟩ := I.base.there b o e hx
      exact ⟨o', (hs.2 b (Nat.ne_of_lt (Nat.lt_of_lt_of_le (Heap.lt_size e) I.ok.above))).trans e1⟩
    · by_cases hj : j = i
      · subst hj
        rw [hi] at e1; cases e1
        rw [List.getElem?_set_self hiσ] at e2
        cases e2
        exact ⟨u, r, .inl ⟨hk, by simp⟩⟩
      · rw [List.getElem?_set_ne (Ne.symm hj)] at e2
        obtain ⟨u', r', q⟩ := hl j y v' e1 e2 e3
        refine ⟨u', r', ?_⟩
        rcases q with ⟨k, e⟩ | ⟨k, c, e, z⟩
        · refine .inl ⟨k, ?_⟩
          have : y ≠ x := fun e => hj (nodup_ix hN e1 (e ▸ hi))
          simp [this, e]
        · exact .inr ⟨k, c, e, z.sameBut hs (cne y c e)⟩
    · obtain ⟨w', z⟩ := I.cell y c e
      exact ⟨w', z.sameBut hs (cne y c e)⟩
    · obtain ⟨e, n, ne, nf, d⟩ := I.pin p hp
      exact ⟨(hs.2 p.1 ne).trans e, n, ne, nf, d⟩
  · have hfn : X.fn x = true := by
      rcases hf with z | z
      · exact z
      · rw [z] at hk; cases hk
    obtain ⟨c, hc⟩ := I.ok.has x (.inl hk)
    obtain ⟨w', z⟩ := I.cell x c hc
    refine wpAny_storeName_cell I.ok.kind hk hc z (fun h' hc' hs => ?_)
    obtain ⟨oc, hoc, hocd⟩ := id z
    refine h { s with heap := h' } ⟨I.ok, I.os, I.bare, ⟨fun b o e n hb hx => ?_, fun b o e n hb hx => ?_, I.base.free, fun b o e hx => ?_, I.base.tups, I.base.frzs, I.base.tbls⟩, ⟨m, hn.sameBut hs (Ne.symm (cne x c hc)), fun j y v' e1 e2 e3 => ?_⟩, fun y c' e => ?_, I.free, I.freeC, fun p hp => ?_, tracked ⟨oc, hoc, I.freeC x c hc⟩ hs, by simpa using I.len⟩ ⟨c, hs, .inr hc⟩
    · exact (hs.2 b (Nat.ne_of_lt (Nat.lt_of_lt_of_le (Heap.lt_size e) (I.ok.cab x c hfn hc)))).trans (I.base.keep b o e n hb hx)
    · obtain ⟨sl, e1⟩ := I.base.slot b o e n hb hx
      exact ⟨sl, (hs.2 b (Nat.ne_of_lt (Nat.lt_of_lt_of_le (Heap.lt_size e) (I.ok.cab x c hfn hc)))).trans e1⟩
    · obtain ⟨o', e1⟩ := I.base.there b o e hx
      exact ⟨o', (hs.2 b (Nat.ne_of_lt (Nat.lt_of_lt_of_le (Heap.lt_size e) (I.ok.cab x c hfn hc)))).trans e1⟩
    · by_cases hj : j = i
      · subst hj
        rw [hi] at e1; cases e1
        rw [List.getElem?_set_self hiσ] at e2
        cases e2
        exact ⟨u, r, .inr ⟨.inl hk, c, hc, hc'⟩⟩
      · rw [List.getElem?_set_ne (Ne.symm hj)] at e2
        obtain ⟨u', r', q⟩ := hl j y v' e1 e2 e3
        refine ⟨u', r', ?_⟩
        rcases q with q | ⟨k, c', e, z'⟩
        · exact .inl q
        · refine .inr ⟨k, c', e, z'.sameBut hs ?_⟩
          rintro rfl
          exact hj (nodup_ix hN e1 (I.ok.inj _ _ _ e hc ▸ hi))
    · by_cases hcc : c' = c
      · subst hcc; exact ⟨_, hc'⟩
      · obtain ⟨w2, z2⟩ := I.cell y c' e
        exact ⟨w2, z2.sameBut hs hcc⟩
    · obtain ⟨e, n, ne, nf, d⟩ := I.pin p hp
      refine ⟨(hs.2 p.1 ?_).trans e, n, ne, nf, d⟩
      intro q
      rw [q, hoc] at e
      have q' : oc = p.2 := Option.some.inj e
      exact d w' (by rw [<- q']; exact hocd)
theorem store_ok {M : Model} {A : Around} {E : Value -> Shared -> Prop} {i : Nat} {x : Str} {v : V} {u : Value} {Q : Unit -> Shared -> Prop} (I : Inv X pins σ H s) (hN : X.N.Nodup) (hi : X.N[i]? = some x) (hx : Loc X.env.scope x) (r : RelV v u)
    (h : ∀ s', Inv X pins (σ.set i (some v)) H s' -> Q () s') (hf : X.fn x = true \/ X.env.scope.names.lookup x = some .local := by first | exact .inl rfl | exact .inr rfl | assumption) : wpAny M A (storeName X.env x u) Q E s :=
  store_ok2 I hN hi hx r (fun s' I' _ => h s' I') hf
theorem Inv.call' {s' : Shared} {ch : List Addr} (I : Inv X pins σ H s) (ho : s'.os = s.os) (u : Un (frs X.stack) ch H H' s.heap s'.heap) (hok : HOk X.prog X.w H' s'.heap) (hg : AllBare s'.gens)
    (hch : ∀ b ∈ ch, (b ∈ X.ex \/ X.s₀.heap.objs.size <= b) /\ b ≠ X.env.locals /\ (∀ x c, X.env.cells.lookup x = some c -> c ≠ b) /\ ∀ p ∈ X.pn ++ pins, p.1 ≠ b) : Inv X pins σ H' s' := by
  obtain ⟨h', g', d', t', o'⟩ := s'
  have e : o' = s.os := ho
  subst e
  exact I.call (g' := g') (t' := t') (d' := d') u hok hg hch
end
abbrev XK := Value -> Option Addr -> Hp -> Prop
abbrev St := List (Option V)
abbrev VK := V -> Hp -> Prop
abbrev TE := St -> Hp -> VK -> Prop
abbrev TT := St -> Hp -> (Bool -> Hp -> Prop) -> Prop
abbrev TA := St -> Hp -> (List V -> Hp -> Prop) -> Prop
structure Ends where
  nx : St -> Hp -> Prop
  rt : VK
  bk : St -> Hp -> Prop := fun _ _ => False
  ct : St -> Hp -> Prop := fun _ _ => False
abbrev TS := Ends -> St -> Hp -> Prop
def EP (X : Cx) (pins : List (Addr × Obj)) (σ : St) (Q : VK) (u : Value) (s' : Shared) : Prop := ∃ v H', Inv X pins σ H' s' /\ RelV v u /\ Q v H'
def TP (X : Cx) (pins : List (Addr × Obj)) (σ : St) (Q : Bool -> Hp -> Prop) (b : Bool) (s' : Shared) : Prop := ∃ H', Inv X pins σ H' s' /\ Q b H'
def AP (X : Cx) (pins : List (Addr × Obj)) (σ : St) (Q : List V -> Hp -> Prop) (us : List Value) (s' : Shared) : Prop := ∃ vs H', Inv X pins σ H' s' /\ Vals vs us /\ Q vs H'
def SP (X : Cx) (pins : List (Addr × Obj)) (D : Ends) (f : Flow) (s' : Shared) : Prop :=
  match f with
  | .next => ∃ σ' H', Inv X pins σ' H' s' /\ D.nx σ' H'
  | .brk => ∃ σ' H', Inv X pins σ' H' s' /\ D.bk σ' H'
  | .cont => ∃ σ' H', Inv X pins σ' H' s' /\ D.ct σ' H'
  | .ret u => ∃ v σ' H', Inv X pins σ' H' s' /\ RelV v u /\ D.rt v H'
def PE (X : Cx) (e : Expr) (t : TE) : Prop :=
  ∀ (pins : List (Addr × Obj)) (s : Shared) (σ : St) (H : Hp) (Q : VK), Inv X pins σ H s -> t σ H Q -> wpAny (model X.prog X.w) X.A (eval e X.env) (EP X pins σ Q) X.xe s
def PT (X : Cx) (e : Expr) (t : TT) : Prop :=
  ∀ (pins : List (Addr × Obj)) (s : Shared) (σ : St) (H : Hp) (Q : Bool -> Hp -> Prop), Inv X pins σ H s -> t σ H Q -> wpAny (model X.prog X.w) X.A (isTrue e X.env (eval e X.env)) (TP X pins σ Q) X.xe s
def PW (X : Cx) (e : Expr) (t : TT) : Prop :=
  ∀ (whole : Sem Value) (pins : List (Addr × Obj)) (s : Shared) (σ : St) (H : Hp) (Q : Bool -> Hp -> Prop), Inv X pins σ H s -> t σ H Q -> wpAny (model X.prog X.w) X.A (isTrue e X.env whole) (TP X pins σ Q) X.xe s
theorem PW.pt {X : Cx} {e : Expr} {t : TT} (h : PW X e t) : PT X e t := h _
def PA (X : Cx) (es : List Expr) (t : TA) : Prop :=
  ∀ (pos : Pos) (pins : List (Addr × Obj)) (s : Shared) (σ : St) (H : Hp) (Q : List V -> Hp -> Prop), Inv X pins σ H s -> t σ H Q -> wpAny (model X.prog X.w) X.A (spliced (backTo pos (starEach es X.env))) (AP X pins σ Q) X.xe s
def PS (X : Cx) (st : Stmt) (t : TS) : Prop :=
  ∀ (pins : List (Addr × Obj)) (s : Shared) (σ : St) (H : Hp) (D : Ends), Inv X pins σ H s -> t D σ H -> wpAny (model X.prog X.w) X.A (exec st X.env) (SP X pins D) X.xe s
def PSs (X : Cx) (st : List Stmt) (t : TS) : Prop :=
  ∀ (pins : List (Addr × Obj)) (s : Shared) (σ : St) (H : Hp) (D : Ends), Inv X pins σ H s -> t D σ H -> wpAny (model X.prog X.w) X.A (execs st X.env) (SP X pins D) X.xe s
theorem thn {α : Type} {t : Sem α} {Q Q' : α -> Shared -> Prop} {M : Model} {A : Around} {E : Value -> Shared -> Prop} {s : Shared} (h : wpAny M A t Q E s) (hQ : ∀ a s, Q a s -> Q' a s) : wpAny M A t Q' E s := wpAny_mono h hQ fun _ _ x => x
end L2
namespace L2
open PySem PySem.Spec PyProof.Rows
section
variable {X : Cx}
def tVar (i : Nat) : TE := fun σ H Q => ∃ v, σ[i]? = some (some v) /\ Q v H
def tC (v : V) : TE := fun _ H Q => Q v H
theorem pe_var {i : Nat} {x : Str} {pos : Pos} (hN : X.N[i]? = some x) (hv : Vis X.env.scope x) (hd : (x == ("__debug__" : Str)) = false := by decide) (hcd : (x == ("__classdict__" : Str)) = false := by decide) : PE X (.Name x pos) (tVar i) := by
  intro pins s σ H Q I h
  obtain ⟨v, e, h⟩ := h
  obtain ⟨m, hn, hl⟩ := I.loc
  obtain ⟨u, r, l⟩ := hl i x v hN e hv
  have fin : EP X pins σ Q u s := ⟨v, H, I, r, h⟩
  rcases l with ⟨hk, hm⟩ | ⟨hk, c, hc, hcell⟩
  · exact wpAny_Name (wpAny_loadName_local I.ok.kind hk hn hm fin) hd
  · rcases hk with hk | hk
    · exact wpAny_Name (wpAny_loadName_cell I.ok.kind hk hc hcell fin) hd
    · exact wpAny_Name (wpAny_loadName_free I.ok.kind hk hc hcell fin hcd) hd
theorem pe_int {i j pos} : PE X (.Constant (.int i) j pos) (tC (.int i)) := fun _ _ _ H _ I h => wpAny_Constant_int ⟨.int i, H, I.tok _, ⟨_, rfl⟩, h⟩
theorem pe_bl {b j pos} : PE X (.Constant (.bool b) j pos) (tC (.bl b)) := fun _ _ _ H _ I h => Constant_bool ⟨.bl b, H, I, rfl, h⟩
theorem pe_non {j pos} : PE X (.Constant .none j pos) (tC .non) := fun _ _ _ H _ I h => Constant_none ⟨.non, H, I, rfl, h⟩
theorem pe_str {x j pos} : PE X (.Constant (.str x) j pos) (tC (.str x)) := fun _ _ _ H _ I h => Calls.Constant_str ⟨.str x, H, I.tok _, ⟨_, rfl⟩, h⟩
def Gl (X : Cx) (x : Str) : Prop := X.env.kindOf x = some .globalImplicit
theorem ld_glob {E : Value -> Shared -> Prop} {pins : List (Addr × Obj)} {s : Shared} {σ : St} {H : Hp} {x : Str} {u : Value} {pos : Pos} {Q : Value -> Shared -> Prop} (I : Inv X pins σ H s) (hg : Gl X x) (hm : X.mg x = some u) (h : Q u s)
    (hd : (x == ("__debug__" : Str)) = false := by decide) : wpAny (model X.prog X.w) X.A (eval (.Name x pos) X.env) Q E s :=
  Calls.Name_function_global I.ok.kind hg (Calls.loadGlobal_global (by rw [I.ok.glob]; exact I.mod.glob.keeps I.bk) hm h) hd
theorem ld_blt {E : Value -> Shared -> Prop} {pins : List (Addr × Obj)} {s : Shared} {σ : St} {H : Hp} {x : Str} {u : Value} {pos : Pos} {Q : Value -> Shared -> Prop} (I : Inv X pins σ H s) (hg : Gl X x) (hm : X.mg x = none) (hv : bootBuiltins x = some u) (h : Q u s)
    (hn : x ≠ "__name__" := by decide) (hd : (x == ("__debug__" : Str)) = false := by decide) : wpAny (model X.prog X.w) X.A (eval (.Name x pos) X.env) Q E s := by
  obtain ⟨mb, h1, h2⟩ := I.mod.blt
  exact Calls.Name_function_global I.ok.kind hg (Calls.loadGlobal_builtin (by rw [I.ok.glob]; exact I.mod.glob.keeps I.bk) hm (by rw [I.ok.blt]; exact h1.keeps I.bk) ((h2 x hn).trans hv) h) hd
theorem pe_glob {x : Str} {v : V} {u : Value} {pos : Pos} (hg : Gl X x) (hm : X.mg x = some u) (r : RelV v u) (hd : (x == ("__debug__" : Str)) = false := by decide) : PE X (.Name x pos) (tC v) :=
  fun _ _ _ H _ I h => ld_glob I hg hm ⟨v, H, I, r, h⟩ hd
theorem pe_bltn {x : Str} {v : V} {u : Value} {pos : Pos} (hg : Gl X x) (hm : X.mg x = none) (hv : bootBuiltins x = some u) (r : RelV v u) (hn : x ≠ "__name__" := by decide) (hd : (x == ("__debug__" : Str)) = false := by decide) : PE X (.Name x pos) (tC v) :=
  fun _ _ _ H _ I h => ld_blt I hg hm hv ⟨v, H, I, r, h⟩ hn hd
variable {a b : Expr} {ta tb : TE} {pos : Pos}
def PC (X : Cx) (op : CmpOp) (a b : Expr) (t : TE) : Prop :=
  ∀ (pins : List (Addr × Obj)) (s : Shared) (σ : St) (H : Hp) (Q : VK), Inv X pins σ H s -> t σ H Q ->
    wpAny (model X.prog X.w) X.A (eval a X.env) (fun v s₁ => wpAny (model X.prog X.w) X.A (eval b X.env) (fun u s₂ => wpAny (model X.prog X.w) X.A (compareOp op v u) (EP X pins σ Q) X.xe s₂) X.xe s₁) X.xe s
theorem nobehind (b : Expr) {op : CmpOp} (h : op ≠ .In) (h2 : op ≠ .NotIn) : behindInMarks op b = false := by
  have e1 : (op == CmpOp.In) = false := by cases op <;> first | rfl | exact absurd rfl h
  have e2 : (op == CmpOp.NotIn) = false := by cases op <;> first | rfl | exact absurd rfl h2
  cases b <;> simp [behindInMarks, e1, e2]
def tIsN (ta : TE) : TE := fun σ H Q => ta σ H fun x H1 => Q (.bl (decide (x = .non))) H1
def tNotN (ta : TE) : TE := fun σ H Q => ta σ H fun x H1 => Q (.bl (!decide (x = .non))) H1
theorem RelV.none_iff {x : V} {v : Value} (r : RelV x v) : (v == Value.none) = decide (x = .non) := by
  cases x with
  | non => cases r; rfl
  | bl _ => cases r; rfl
  | int _ => obtain ⟨t, rfl⟩ := r; rfl
  | str _ => obtain ⟨t, rfl⟩ := r; rfl
  | byt _ => obtain ⟨t, rfl⟩ := r; rfl
  | flt _ => obtain ⟨t, rfl⟩ := r; rfl
  | ref _ => cases r; rfl
  | ty _ => cases r; rfl
theorem pc_isN {j pos'} (ha : PE X a ta) : PC X .Is a (.Constant .none j pos') (tIsN ta) := by
  intro pins s σ H Q I h
  refine thn (ha pins s σ H _ I h) fun v s1 ⟨x, H1, I1, r1, q1⟩ => ?_
  exact Constant_none (is_none_gen ⟨.bl _, H1, I1, by rw [r1.none_iff]; rfl, q1⟩)
theorem pc_notN {j pos'} (ha : PE X a ta) : PC X .IsNot a (.Constant .none j pos') (tNotN ta) := by
  intro pins s σ H Q I h
  refine thn (ha pins s σ H _ I h) fun v s1 ⟨x, H1, I1, r1, q1⟩ => ?_
  exact Constant_none (isnot_none_gen ⟨.bl _, H1, I1, by rw [r1.none_iff]; rfl, q1⟩)
def tB (t : TE) : TT := fun σ H Q => t σ H fun x H1 => ∃ c, x = .bl c /\ Q c H1
theorem pt_cmp {op : CmpOp} {t : TE} (h : PC X op a b t) (h1 : behindInMarks op b = false := by first | exact nobehind _ (by decide) (by decide) | rfl) : PT X (.Compare a [op] [b] pos) (tB t) := by
  intro pins s σ H Q I hw
  refine wpAny_isTrue_Compare1 (thn (h pins s σ H _ I hw) fun v s1 h1 => thn h1 fun u s2 h2 => thn h2 fun c s3 ⟨x, H1, I1, r1, q1⟩ => ?_) h1
  obtain ⟨d, rfl, q⟩ := q1
  cases r1
  exact wpAny_truthy_bool ⟨H1, I1, q⟩
theorem pt_val {e : Expr} {t : TE} (h : PE X e t) (he : ∀ whole, isTrue e X.env whole = (do let v <- whole; standAt e.pos; holding [v] (truthy v)) := by intro _; rfl) : PT X e (tB t) := by
  intro pins s σ H Q I hw
  refine isTrue_plain (thn (h pins s σ H _ I hw) fun v s1 ⟨x, H1, I1, r1, q1⟩ => ?_) (he _)
  obtain ⟨d, rfl, q⟩ := q1
  cases r1
  exact wpAny_truthy_bool ⟨H1, I1, q⟩
variable {tA tB' : TT} {rest : List Expr}
def tAnd (t u : TT) : TT := fun σ H Q => t σ H fun c H1 => if c = true then u σ H1 Q else Q false H1
def tOr (t u : TT) : TT := fun σ H Q => t σ H fun c H1 => if c = true then Q true H1 else u σ H1 Q
def tNot (t : TT) : TT := fun σ H Q => t σ H fun c H1 => Q (!c) H1
theorem pw_and1 (ha : PT X a tA) : PW X (.BoolOp .And [a] pos) tA := by
  intro wh pins s σ H Q I h
  refine isTrue_and (thn (ha pins s σ H Q I h) fun c s1 e => ?_)
  cases c with
  | true => exact isTrue_and_nil e
  | false => exact e
theorem pw_or1 (ha : PT X a tA) : PW X (.BoolOp .Or [a] pos) tA := by
  intro wh pins s σ H Q I h
  refine isTrue_or (thn (ha pins s σ H Q I h) fun c s1 e => ?_)
  cases c with
  | false => exact isTrue_or_nil e
  | true => exact e
theorem pw_and (ha : PT X a tA) (hb : PW X (.BoolOp .And (b :: rest) pos) tB') : PW X (.BoolOp .And (a :: b :: rest) pos) (tAnd tA tB') := by
  intro wh pins s σ H Q I h
  refine isTrue_and (thn (ha pins s σ H _ I h) fun c s1 ⟨H1, I1, q1⟩ => ?_)
  cases c with
  | true => exact hb wh pins s1 σ H1 Q I1 q1
  | false => exact ⟨H1, I1, q1⟩
theorem pw_or (ha : PT X a tA) (hb : PW X (.BoolOp .Or (b :: rest) pos) tB') : PW X (.BoolOp .Or (a :: b :: rest) pos) (tOr tA tB') := by
  intro wh pins s σ H Q I h
  refine isTrue_or (thn (ha pins s σ H _ I h) fun c s1 ⟨H1, I1, q1⟩ => ?_)
  cases c with
  | true => exact ⟨H1, I1, q1⟩
  | false => exact hb wh pins s1 σ H1 Q I1 q1
theorem pt_not (ha : PT X a tA) : PT X (.UnaryOp .Not a pos) (tNot tA) := by
  intro pins s σ H Q I h
  exact isTrue_not (ha pins s σ H (fun c H1 => Q (!c) H1) I h)
def tAndV (ta tb : TE) : TE := fun σ H Q => ta σ H fun x H1 => ∃ c, x = .bl c /\ if c = true then tb σ H1 Q else Q (.bl false) H1
def tOrV (ta tb : TE) : TE := fun σ H Q => ta σ H fun x H1 => ∃ c, x = .bl c /\ if c = true then Q (.bl true) H1 else tb σ H1 Q
def tNotV (ta : TE) : TE := fun σ H Q => ta σ H fun x H1 => ∃ c, x = .bl c /\ Q (.bl (!c)) H1
theorem pe_one {op} {t : TE} (h : PE X a t) : PE X (.BoolOp op [a] pos) t := fun pins s σ H Q I hw => BoolOp_one (h pins s σ H Q I hw)
theorem pe_and (ha : PE X a ta) (hb : PE X (.BoolOp .And (b :: rest) pos) tb) : PE X (.BoolOp .And (a :: b :: rest) pos) (tAndV ta tb) := by
  intro pins s σ H Q I h
  refine BoolOp_and (thn (ha pins s σ H _ I h) fun v s1 ⟨x, H1, I1, r1, q1⟩ => ?_)
  obtain ⟨c, rfl, q1⟩ := q1
  cases r1
  refine wpAny_truthy_bool ?_
  cases c with
  | true => exact hb pins s1 σ H1 Q I1 q1
  | false => exact ⟨.bl false, H1, I1, rfl, q1⟩
theorem pe_or (ha : PE X a ta) (hb : PE X (.BoolOp .Or (b :: rest) pos) tb) : PE X (.BoolOp .Or (a :: b :: rest) pos) (tOrV ta tb) := by
  intro pins s σ H Q I h
  refine BoolOp_or (thn (ha pins s σ H _ I h) fun v s1 ⟨x, H1, I1, r1, q1⟩ => ?_)
  obtain ⟨c, rfl, q1⟩ := q1
  cases r1
  refine wpAny_truthy_bool ?_
  cases c with
  | false => exact hb pins s1 σ H1 Q I1 q1
  | true => exact ⟨.bl true, H1, I1, rfl, q1⟩
theorem pe_not (ha : PE X a ta) : PE X (.UnaryOp .Not a pos) (tNotV ta) := by
  intro pins s σ H Q I h
  refine UnaryOp_ (thn (ha pins s σ H _ I h) fun v s1 ⟨x, H1, I1, r1, q1⟩ => ?_)
  obtain ⟨c, rfl, q1⟩ := q1
  cases r1
  exact not_of (wpAny_truthy_bool ⟨.bl (!c), H1, I1, rfl, q1⟩)
end
end L2
namespace L2
open PySem PySem.Spec PyProof.Rows
def SqL (K : PySem.W.Frag) (H : Hp) (a : Addr) (xs : List V) : Prop :=
  Rd H a (.lst xs) \/
    ∃ (o : Obj) (its : Array Value) (n : Nat), K.lookup a = some o /\ o.cls = .type "list" /\ o.dict = none /\ o.data = .seq its n /\ its.size <= sizeLine /\ Vals xs its.toList
def SqT (K : PySem.W.Frag) (H : Hp) (a : Addr) (xs : List V) : Prop :=
  Rd H a (.tup xs) \/
    ∃ (o : Obj) (its : Array Value) (n : Nat), K.lookup a = some o /\ o.cls = .type "tuple" /\ o.data = .seq its n /\ its.size <= sizeLine /\ Vals xs its.toList
def absV : Value -> Option V
  | .none => some .non
  | .bool b => some (.bl b)
  | .int i _ => some (.int i)
  | .str x _ => some (.str x)
  | .bytes b _ => some (.byt b)
  | .float b _ => some (.flt b)
  | .ref a => some (.ref a)
  | .type n => some (.ty n)
  | _ => none
theorem RelV.abs {x : V} {u : Value} (r : RelV x u) : absV u = some x := by
  cases x with
  | non => cases r; rfl
  | bl _ => cases r; rfl
  | int _ => obtain ⟨t, rfl⟩ := r; rfl
  | str _ => obtain ⟨t, rfl⟩ := r; rfl
  | byt _ => obtain ⟨t, rfl⟩ := r; rfl
  | flt _ => obtain ⟨t, rfl⟩ := r; rfl
  | ref _ => cases r; rfl
  | ty _ => cases r; rfl
theorem RelV.inj {x y : V} {u : Value} (r : RelV x u) (q : RelV y u) : x = y := Option.some.inj (r.abs.symm.trans q.abs)
theorem Vals.inj : ∀ {xs ys : List V} {us : List Value}, Vals xs us -> Vals ys us -> xs = ys
  | _, _, _, .nil, .nil => rfl
  | _, _, _, .cons r t, .cons r' t' => by rw [r.inj r', Vals.inj t t']
section
variable {X : Cx} {pins : List (Addr × Obj)} {σ : St} {H : Hp} {s : Shared} {a : Addr} {xs ys : List V}
theorem SqL.of {K : PySem.W.Frag} (h : H a = some (.lst xs)) : SqL K H a xs := .inl (.inl h)
theorem SqT.of {K : PySem.W.Frag} (h : H a = some (.tup xs)) : SqT K H a xs := .inl (.inl h)
theorem Inv.list (I : Inv X pins σ H s) (h : SqL X.K H a xs) : ∃ its : List Value, Vals xs its /\ PlainL s.heap a its.toArray /\ xs.length <= sizeLine := by
  rcases h with h | ⟨o, its, n, hk, hc, hd, hs, hz, r⟩
  · obtain ⟨z, its, n, r, e⟩ := h.ok I.hok
    exact ⟨its, r, ⟨_, n, e, rfl, rfl, rfl⟩, z⟩
  · refine ⟨its.toList, r, ⟨o, n, I.kIn a o hk, hc, hd, by simpa using hs⟩, ?_⟩
    have e := r.length
    simp only [Array.length_toList] at e
    omega
theorem Inv.tuple (I : Inv X pins σ H s) (h : SqT X.K H a xs) : ∃ its : List Value, Vals xs its /\ IsTup s.heap a its.toArray /\ xs.length <= sizeLine := by
  rcases h with h | ⟨o, its, n, hk, hc, hs, hz, r⟩
  · obtain ⟨z, its, r, p⟩ := h.ok I.hok
    exact ⟨its, r, p, z.1⟩
  · refine ⟨its.toList, r, ⟨o, I.kIn a o hk, hc, n, by simpa using hs⟩, ?_⟩
    have e := r.length
    simp only [Array.length_toList] at e
    omega
theorem Inv.list_inj (I : Inv X pins σ H s) (h : SqL X.K H a xs) (h' : SqL X.K H a ys) : xs = ys := by
  obtain ⟨its, r, ⟨o, n, e, _, _, d⟩, _⟩ := I.list h
  obtain ⟨its', r', ⟨o', n', e', _, _, d'⟩, _⟩ := I.list h'
  rw [e] at e'; cases e'
  rw [d] at d'
  injection d' with d1 _
  have : its = its' := by simpa using congrArg Array.toList d1
  subst this
  exact r.inj r'
theorem Inv.tuple_inj (I : Inv X pins σ H s) (h : SqT X.K H a xs) (h' : SqT X.K H a ys) : xs = ys := by
  obtain ⟨its, r, ⟨o, e, _, n, d⟩, _⟩ := I.tuple h
  obtain ⟨its', r', ⟨o', e', _, n', d'⟩, _⟩ := I.tuple h'
  rw [e] at e'; cases e'
  rw [d] at d'
  injection d' with d1 _
  have : its = its' := by simpa using congrArg Array.toList d1
  subst this
  exact r.inj r'
end
abbrev Cx.wish (X : Cx) (E : Value -> Shared -> Prop) : Cx := { X with xe := E }
abbrev Cx.nox (X : Cx) : Cx := X.wish fun _ _ => False
theorem Cx.Ok.wish {X : Cx} (ok : X.Ok) (E : Value -> Shared -> Prop) : (X.wish E).Ok :=
  ⟨ok.mod, ok.kind, ok.glob, ok.blt, ok.above, ok.inj, ok.has, ok.cab, ok.hd, ok.frames, ok.stk, ok.exf, ok.bs, ok.bsz, ok.noex, ok.exfs, ok.funs, ok.frf⟩
theorem Cx.Ok.unwish {X : Cx} {E : Value -> Shared -> Prop} (ok : (X.wish E).Ok) : X.Ok :=
  ⟨ok.mod, ok.kind, ok.glob, ok.blt, ok.above, ok.inj, ok.has, ok.cab, ok.hd, ok.frames, ok.stk, ok.exf, ok.bs, ok.bsz, ok.noex, ok.exfs, ok.funs, ok.frf⟩
section
variable {X : Cx} {pins : List (Addr × Obj)} {σ : St} {H : Hp} {s : Shared} {E : Value -> Shared -> Prop}
theorem Inv.wish (I : Inv X pins σ H s) (E : Value -> Shared -> Prop) : Inv (X.wish E) pins σ H s := ⟨I.ok.wish E, I.os, I.bare, I.base, I.loc, I.cell, I.free, I.freeC, I.pin, I.hok, I.len⟩
theorem Inv.unwish (I : Inv (X.wish E) pins σ H s) : Inv X pins σ H s := ⟨I.ok.unwish, I.os, I.bare, I.base, I.loc, I.cell, I.free, I.freeC, I.pin, I.hok, I.len⟩
theorem SP.unwish {D : Ends} {f : Flow} {s' : Shared} (h : SP (X.wish E) pins D f s') : SP X pins D f s' := by
  cases f with
  | next => obtain ⟨σ', H', I, q⟩ := h; exact ⟨σ', H', I.unwish, q⟩
  | brk => obtain ⟨σ', H', I, q⟩ := h; exact ⟨σ', H', I.unwish, q⟩
  | cont => obtain ⟨σ', H', I, q⟩ := h; exact ⟨σ', H', I.unwish, q⟩
  | ret u => obtain ⟨v, σ', H', I, r, q⟩ := h; exact ⟨v, σ', H', I.unwish, r, q⟩
theorem PSs.nox {st : List Stmt} {t : TS} (h : PSs X.nox st t) : PSs X st t := fun pins s σ H D I hw =>
  wpAny_mono (h pins s σ H D (I.wish _) hw) (fun _ _ q => q.unwish) fun _ _ z => False.elim z
end
section
variable {X : Cx} {st : Stmt} {rest : List Stmt} {t u : TS} {e : Expr} {te : TE} {pos : Pos}
def tNext : TS := fun D σ H => D.nx σ H
def tSeq (t u : TS) : TS := fun D σ H => t { D with nx := u D } σ H
theorem pss_nil : PSs X [] tNext := fun _ _ σ H _ I h => wpAny_execs_nil ⟨σ, H, I, h⟩
theorem pss_cons (h1 : PS X st t) (h2 : PSs X rest u) : PSs X (st :: rest) (tSeq t u) := by
  intro pins s σ H D I h
  refine wpAny_execs_cons (thn (h1 pins s σ H { D with nx := u D } I h) fun f s1 q => ?_)
  cases f with
  | next =>
    obtain ⟨σ', H', I', q⟩ := q
    exact h2 pins s1 σ' H' D I' q
  | ret v => exact q
  | brk => exact q
  | cont => exact q
theorem pss_one (h1 : PS X st t) : PSs X [st] t := by
  intro pins s σ H D I h
  refine wpAny_execs_cons (thn (h1 pins s σ H D I h) fun f s1 q => ?_)
  cases f with
  | next => exact wpAny_execs_nil q
  | ret v => exact q
  | brk => exact q
  | cont => exact q
theorem Inv.quiet {pins : List (Addr × Obj)} {σ : St} {H : Hp} {s : Shared} (I : Inv X pins σ H s) : interactive X.env = false := by simp [interactive, I.ok.kind]
def tDrop (te : TE) : TS := fun D σ H => te σ H fun _ H1 => D.nx σ H1
theorem ps_expr (he : PE X e te) (hs : swapsWith e none pos.line X.env = pure false := by rfl) : PS X (.Expr e pos) (tDrop te) := by
  intro pins s σ H D I h
  exact wpAny_Expr_any (thn (he pins s σ H _ I h) fun v s1 ⟨x, H1, I1, r1, q1⟩ => ⟨σ, H1, I1, q1⟩) I.quiet hs
def tRet (te : TE) : TS := fun D σ H => te σ H D.rt
theorem ps_ret (he : PE X e te) : PS X (.Return (some e) pos) (tRet te) := by
  intro pins s σ H D I h
  exact wpAny_Return_some (thn (he pins s σ H _ I h) fun v s1 ⟨x, H1, I1, r1, q1⟩ => ⟨x, σ, H1, I1, r1, q1⟩)
def tIfS (c : TT) (t u : TS) : TS := fun D σ H => c σ H fun b H1 => if b = true then t D σ H1 else u D σ H1
theorem ps_if {c : Expr} {a b : List Stmt} {tc : TT} (hc : PT X c tc) (ha : PSs X a t) (hb : PSs X b u) : PS X (.If c a b pos) (tIfS tc t u) := by
  intro pins s σ H D I h
  refine wpAny_If (thn (hc pins s σ H _ I h) fun d s1 ⟨H1, I1, q1⟩ => ?_)
  cases d with
  | true => exact ha pins s1 σ H1 D I1 q1
  | false => exact hb pins s1 σ H1 D I1 q1
end
abbrev TG := V -> St -> Hp -> (St -> Hp -> Prop) -> Prop
abbrev TGs := List V -> St -> Hp -> (St -> Hp -> Prop) -> Prop
def PG (X : Cx) (target : Expr) (t : TG) : Prop :=
  ∀ (pins : List (Addr × Obj)) (s : Shared) (σ : St) (H : Hp) (v : V) (u : Value) (Q : St -> Hp -> Prop), Inv X pins σ H s -> RelV v u -> t v σ H Q ->
    wpAny (model X.prog X.w) X.A (assign target X.env u) (fun _ s' => ∃ σ' H', Inv X pins σ' H' s' /\ Q σ' H') X.xe s
def PGs (X : Cx) (ts : List Expr) (t : TGs) : Prop :=
  ∀ (pins : List (Addr × Obj)) (s : Shared) (σ : St) (H : Hp) (vs : List V) (us : List Value) (Q : St -> Hp -> Prop), Inv X pins σ H s -> Vals vs us -> t vs σ H Q ->
    wpAny (model X.prog X.w) X.A (assignInOrder ((assignEach ts X.env).map (·.2)) us) (fun _ s' => ∃ σ' H', Inv X pins σ' H' s' /\ Q σ' H') X.xe s
abbrev TSet := V -> V -> V -> Hp -> (Hp -> Prop) -> Prop
def PSet (X : Cx) (t : TSet) : Prop :=
  ∀ (pins : List (Addr × Obj)) (s : Shared) (σ : St) (H : Hp) (o i v : V) (ov iv u : Value) (Q : Hp -> Prop), Inv X pins σ H s -> RelV o ov -> RelV i iv -> RelV v u -> t o i v H Q ->
    wpAny (model X.prog X.w) X.A (setItem ov iv u) (fun _ s' => ∃ H', Inv X pins σ H' s' /\ Q H') X.xe s
abbrev TIp := V -> V -> Hp -> VK -> Prop
def PIp (X : Cx) (op : Operator) (t : TIp) : Prop :=
  ∀ (pins : List (Addr × Obj)) (s : Shared) (σ : St) (H : Hp) (x y : V) (v u : Value) (Q : VK), Inv X pins σ H s -> RelV x v -> RelV y u -> t x y H Q ->
    wpAny (model X.prog X.w) X.A (inplaceOp op v u) (EP X pins σ Q) X.xe s
section
variable {X : Cx} {pos : Pos}
def gName (i : Nat) : TG := fun v σ H Q => Q (σ.set i (some v)) H
theorem pg_name {i : Nat} {x : Str} (hN : X.N.Nodup) (hi : X.N[i]? = some x) (hx : Loc X.env.scope x) (hf : X.fn x = true \/ X.env.scope.names.lookup x = some .local := by first | exact .inl rfl | exact .inr rfl | assumption) : PG X (.Name x pos) (gName i) := by
  intro pins s σ H v u Q I r h
  exact wpAny_assign_Name (store_ok I hN hi hx r (fun s' I' => ⟨_, H, I', h⟩) hf)
def gNil : TGs := fun vs σ H Q => vs = [] /\ Q σ H
def gCons (t : TG) (u : TGs) : TGs := fun vs σ H Q => ∃ v r, vs = v :: r /\ t v σ H fun σ' H' => u r σ' H' Q
theorem pgs_nil : PGs X [] gNil := by
  intro pins s σ H vs us Q I r h
  obtain ⟨e, h⟩ := h
  subst e
  cases r
  exact assignInOrder_nil ⟨σ, H, I, h⟩
theorem pgs_cons {e : Expr} {es : List Expr} {t : TG} {u : TGs} (h1 : PG X e t) (h2 : PGs X es u)
    (hs : (assignEach (e :: es) X.env).map (·.2) = assign e X.env :: (assignEach es X.env).map (·.2) := by rfl) : PGs X (e :: es) (gCons t u) := by
  intro pins s σ H vs us Q I r h
  obtain ⟨v, vr, e1, h⟩ := h
  subst e1
  cases r with
  | cons r rr =>
    rw [hs]
    refine assignInOrder_cons (thn (h1 pins s σ H _ _ _ I r h) fun _ s1 ⟨σ1, H1, I1, q1⟩ => ?_)
    exact h2 pins s1 σ1 H1 _ _ Q I1 rr q1
def gTup (K : PySem.W.Frag) (n : Nat) (t : TGs) : TG := fun v σ H Q => ∃ a xs, v = .ref a /\ SqT K H a xs /\ xs.length = n /\ t xs σ H Q
theorem pg_tup {es : List Expr} {k : Nat} {t : TGs} {n : Nat} (hc : X.calm = true) (h : PGs X es t)
    (hn : (assignEach es X.env).length = n := by rfl) (hst : (assignEach es X.env).findIdx? (·.1) = none := by rfl) : PG X (.Tuple es k pos) (gTup X.K n t) := by
  intro pins s σ H v u Q I r hw
  obtain ⟨a, xs, e1, hq, hl, hw⟩ := hw
  subst e1
  cases r
  obtain ⟨its, rv, ht, hz⟩ := I.tuple hq
  refine assign_Tuple_tuple (I.ok.hd hc) ht (by simp [hn, <- hl, rv.length]) hst fun h' hx => ?_
  have I1 : Inv X pins σ H { s with heap := h' } := I.kept (t' := s.toks) fun b o e => hx b o (Nat.ne_of_lt (Heap.lt_size e)) e
  exact h pins _ σ H xs _ Q I1 (by simpa using rv) hw
def tAsg (te : TE) (g : TG) : TS := fun D σ H => te σ H fun x H1 => g x σ H1 D.nx
theorem ps_set {i : Nat} {x : Str} {e : Expr} {te : TE} {pos' : Pos} (hN : X.N.Nodup) (hi : X.N[i]? = some x) (hx : Loc X.env.scope x) (he : PE X e te) (hs : swapsWith e (some (.Name x pos')) pos.line X.env = pure false := by rfl) (hf : X.fn x = true \/ X.env.scope.names.lookup x = some .local := by first | exact .inl rfl | exact .inr rfl | assumption) :
    PS X (.Assign [.Name x pos'] e pos) (tAsg te (gName i)) := by
  intro pins s σ H D I h
  refine wpAny_Assign_Name (thn (he pins s σ H _ I h) fun v s1 ⟨y, H1, I1, r1, q1⟩ => ?_) hs
  exact store_ok I1 hN hi hx r1 (fun s2 I2 => ⟨_, H1, I2, q1⟩) hf
def tPar (i j : Nat) (ta : TA) : TS := fun D σ H => ta σ H fun vs H1 => ∃ v w, vs = [v, w] /\ D.nx ((σ.set i (some v)).set j (some w)) H1
theorem ps_par {i j : Nat} {x y : Str} {a b : Expr} {ta : TA} {px py pt : Pos} {kt k2 pt2} (hc : X.calm = true) (hN : X.N.Nodup) (hi : X.N[i]? = some x) (hj : X.N[j]? = some y) (hij : i ≠ j)
    (hx : X.env.scope.names.lookup x = some .local) (hy : X.env.scope.names.lookup y = some .local) (ha : PA X [a, b] ta)
    (hw : swappedStores [.Tuple [.Name x px, .Name y py] kt pt] (.Tuple [a, b] k2 pt2) X.env = pure (some [x, y]))
    (hs : swapsWithSole [.Tuple [.Name x px, .Name y py] kt pt] (.Tuple [a, b] k2 pt2) pos.line X.env = pure false := by rfl) :
    PS X (.Assign [.Tuple [.Name x px, .Name y py] kt pt] (.Tuple [a, b] k2 pt2) pos) (tPar i j ta) := by
  intro pins s σ H D I h
  rw [exec_Assign_arm]
  refine wpAny_bind (wpAny_standAt ?_)
  rw [hs]
  refine wpAny_bind (wpAny_pure ?_)
  rw [if_neg (by decide)]
  refine wpAny_bind (Tuple_ (thn (ha _ pins s σ H _ I h) fun us s1 ⟨vs, H1, I1, r1, q1⟩ => ?_))
  obtain ⟨v, w, e1, q1⟩ := q1
  subst e1
  obtain ⟨u1, u2, rfl, rv, rw'⟩ : ∃ u1 u2, us = [u1, u2] /\ RelV v u1 /\ RelV w u2 := by
    cases r1 with
    | cons p q =>
      cases q with
      | cons p' q' =>
        cases q'
        exact ⟨_, _, rfl, p, p'⟩
  refine wpAny_newObj_type ?_ (by show 2 <= sizeLine; decide)
  have I2 : Inv X pins σ H1 { s1 with heap := s1.heap.push { cls := .type "tuple", data := .seq [u1, u2].toArray } } := I1.kept (t' := s1.toks) fun b o e => Heap.get?_push_of_some _ e
  rw [hw]
  refine wpAny_bind (wpAny_pure ?_)
  show wpAny (model X.prog X.w) X.A (do rule "assign.swapped-stores"; let items <- unpackItems (.ref s1.heap.objs.size) 2 none; assignInOrder [fun v => bindName X.env y v, fun v => bindName X.env x v] items.reverse; pure Flow.next) _ _ _
  refine wpAny_bind (wpAny_rule (wpAny_bind (unpackItems_tuple (items := #[u1, u2]) (I.ok.hd hc) (IsTup.new s1.heap _) fun h' hx' => ?_)))
  have I3 := I2.kept (h' := h') (t' := s1.toks) fun b o e => hx' b o (Nat.ne_of_lt (Heap.lt_size e)) e
  show wpAny _ _ (assignInOrder [fun v => bindName X.env y v, fun v => bindName X.env x v] [u2, u1] >>= fun _ => pure Flow.next) _ _ _
  refine wpAny_bind (assignInOrder_cons (wpAny_bindName (store_ok I3 hN hj (.inl hy) rw' (fun s2 I4 => ?_) (.inr hy))))
  refine assignInOrder_cons (wpAny_bindName (store_ok I4 hN hi (.inl hx) rv (fun s3 I5 => assignInOrder_nil (wpAny_pure ?_)) (.inr hx)))
  rw [List.set_comm _ _ (Ne.symm hij)] at I5
  exact ⟨_, H1, I5, q1⟩
def tAugS (to ti te : TE) (tget : V -> V -> Hp -> VK -> Prop) (tip : TIp) (tset : TSet) : TS := fun D σ H => to σ H fun o H1 => ti σ H1 fun i H2 => tget o i H2 fun x H3 => te σ H3 fun y H4 => tip x y H4 fun z H5 => tset o i z H5 fun H6 => D.nx σ H6
def PGet (X : Cx) (t : V -> V -> Hp -> VK -> Prop) : Prop :=
  ∀ (pins : List (Addr × Obj)) (s : Shared) (σ : St) (H : Hp) (o i : V) (ov iv : Value) (Q : VK), Inv X pins σ H s -> RelV o ov -> RelV i iv -> t o i H Q ->
    wpAny (model X.prog X.w) X.A (getItem ov iv) (EP X pins σ Q) X.xe s
theorem ps_augS {o i e : Expr} {to ti te : TE} {tget : V -> V -> Hp -> VK -> Prop} {tip : TIp} {tset : TSet} {op : Operator} {tpos : Pos} (ho : PE X o to) (hi : PE X i ti) (hg : PGet X tget) (he : PE X e te) (hp : PIp X op tip) (hs : PSet X tset)
    (ha : ∀ ov iv new, augStore i ov iv new = (do holding [new, ov, iv] (setItem ov iv new); release [new, ov, iv] []; pure .next) := by intros; rfl) : PS X (.AugAssign (.Subscript o i tpos) op e pos) (tAugS to ti te tget tip tset) := by
  intro pins s σ H D I h
  refine wpAny_AugAssign_SubscriptAny (thn (ho pins s σ H _ I h) fun ov s1 ⟨x1, H1, I1, r1, q1⟩ => ?_) ha
  refine thn (hi pins s1 σ H1 _ I1 q1) fun iv s2 ⟨x2, H2, I2, r2, q2⟩ => ?_
  refine thn (hg pins s2 σ H2 x1 x2 ov iv _ I2 r1 r2 q2) fun old s3 ⟨x3, H3, I3, r3, q3⟩ => ?_
  refine thn (he pins s3 σ H3 _ I3 q3) fun v s4 ⟨x4, H4, I4, r4, q4⟩ => ?_
  refine thn (hp pins s4 σ H4 x3 x4 old v _ I4 r3 r4 q4) fun new s5 ⟨x5, H5, I5, r5, q5⟩ => ?_
  exact thn (hs pins s5 σ H5 x1 x2 x5 ov iv new _ I5 r1 r2 r5 q5) fun _ s6 ⟨H6, I6, q6⟩ => ⟨σ, H6, I6, q6⟩
def ipI (f : Int -> Int -> Int) : TIp := fun x y H Q => ∃ i j, x = .int i /\ y = .int j /\ Q (.int (f i j)) H
theorem ip_add : PIp X .Add (ipI fun i j => i + j) := by
  intro pins s σ H x y v u Q I r1 r2 h
  obtain ⟨i, j, e1, e2, q⟩ := h
  subst e1; subst e2
  obtain ⟨t, rfl⟩ := r1
  obtain ⟨t', rfl⟩ := r2
  exact iadd_int ⟨.int _, H, I.tok _, ⟨_, rfl⟩, q⟩
end
section
variable {X : Cx} {pos : Pos}
def tWhile (c : TT) (tb : TS) : TS := fun D σ H => ∃ W : Nat -> St -> Hp -> Prop, (∃ m, W m σ H) /\ ∀ m σ H, W m σ H ->
  c σ H fun b H1 => if b = true then ∃ N : St -> Hp -> Prop, (∀ σ' H', N σ' H' -> ∃ m', m' < m /\ W m' σ' H') /\ tb { D with nx := N, ct := N, bk := D.nx } σ H1 else D.nx σ H1
theorem ps_while {c : Expr} {body : List Stmt} {tc : TT} {tb : TS} (hp : PassesOwn (model X.prog X.w) X.A X.env X.xe) (hc : PT X c tc) (hb : PSs X body tb) : PS X (.While c body [] pos) (tWhile tc tb) := by
  intro pins s σ H D I h
  obtain ⟨W, ⟨m0, w0⟩, turn⟩ := h
  refine wpAny_While (codeAny_whileLoop (fun n s' => ∃ σ' H', Inv X pins σ' H' s' /\ W n σ' H') ?_ m0 ⟨σ, H, I, w0⟩)
  rintro n s1 ⟨σ1, H1, I1, w1⟩
  refine wpAny_passesOwn hp (thn (hc pins s1 σ1 H1 _ I1 (turn n σ1 H1 w1)) fun b s2 ⟨H2, I2, q2⟩ => ?_)
  cases b with
  | true =>
    obtain ⟨N, hN, q2⟩ := q2
    rw [if_pos rfl]
    refine wpAny_passesOwn hp (thn (hb pins s2 σ1 H2 _ I2 q2) fun f s3 q3 => ?_)
    cases f with
    | next =>
      obtain ⟨σ3, H3, I3, n3⟩ := q3
      obtain ⟨m', hm, w3⟩ := hN σ3 H3 n3
      exact ⟨m', hm, σ3, H3, I3, w3⟩
    | cont =>
      obtain ⟨σ3, H3, I3, n3⟩ := q3
      obtain ⟨m', hm, w3⟩ := hN σ3 H3 n3
      exact ⟨m', hm, σ3, H3, I3, w3⟩
    | brk => exact q3
    | ret v => exact q3
  | false =>
    rw [if_neg Bool.false_ne_true]
    exact wpAny_execs_nil ⟨σ1, H2, I2, q2⟩
end
structure It where
  go : Nat -> Hp -> Prop
  yld : Nat -> Hp -> V -> Hp -> Prop
  stop : Nat -> Hp -> Prop
def FpOk (X : Cx) (pins : List (Addr × Obj)) (H : Hp) (b : Addr) : Prop :=
  H b = none /\ b ≠ X.env.locals /\ b ∉ X.fs /\ (b ∈ X.ex \/ X.s₀.heap.objs.size <= b) /\ (∀ x c, X.env.cells.lookup x = some c -> c ≠ b) /\ ∀ p ∈ X.pn ++ pins, p.1 ≠ b
theorem Inv.fpOk {X : Cx} {pins : List (Addr × Obj)} {σ : St} {H H' : Hp} {s : Shared} {b : Addr} (I : Inv X pins σ H s) (hb : s.heap.objs.size <= b) (hn : H' b = none) : FpOk X pins H' b := by
  refine ⟨hn, Nat.ne_of_gt (Nat.lt_of_lt_of_le I.lt hb), I.nofs hb, .inr (Nat.le_trans I.sz hb), fun x c e z => ?_, fun p hp z => ?_⟩
  · obtain ⟨v, q⟩ := I.cell x c e
    exact absurd (Nat.lt_of_lt_of_le q.lt (by rw [z]; exact hb)) (Nat.lt_irrefl _)
  · exact absurd (Nat.lt_of_lt_of_le (Heap.lt_size (I.pin p hp).1) (by rw [z]; exact hb)) (Nat.lt_irrefl _)
structure Turn (P : Program) (w : World) (K : PySem.W.Frag) (tg : Expr) (J : It) (fp : List Addr) (it : Addr) (tn : Nat -> Heap -> Prop) : Prop where
  mem : it ∈ fp
  obj : ∀ i h, tn i h -> ∀ b ∈ fp, ∃ o, h.get? b = some o /\ ∀ v, o.data ≠ .cell v
  keep : ∀ i h h', tn i h -> (∀ b ∈ fp, ∀ o, h.get? b = some o -> h'.get? b = some o) -> tn i h'
  item : ∀ (X : Cx), X.prog = P -> X.w = w -> X.K = K -> X.calm = true -> ∀ (i : Nat) (pins : List (Addr × Obj)) (s : Shared) (σ : St) (H : Hp) (E : Value -> Shared -> Prop), Inv X pins σ H s -> (∀ b ∈ fp, FpOk X pins H b) -> tn i s.heap -> J.go i H ->
    wpAny (model P w) X.A (pyNext (.ref it)) (fun r s1 => ∃ u, r = some u /\
      wpAny (model P w) X.A (letOwnedTupleGo tg (.ref it) u) (fun _ s2 => ∃ x H', Inv X pins σ H' s2 /\ RelV x u /\ J.yld i H x H' /\ tn (i + 1) s2.heap /\ ∀ b ∈ fp, H' b = none) E s1) E s
  done : ∀ (X : Cx), X.prog = P -> X.w = w -> X.K = K -> X.calm = true -> ∀ (i : Nat) (pins : List (Addr × Obj)) (s : Shared) (σ : St) (H : Hp) (E : Value -> Shared -> Prop), Inv X pins σ H s -> (∀ b ∈ fp, FpOk X pins H b) -> tn i s.heap -> J.stop i H ->
    wpAny (model P w) X.A (pyNext (.ref it)) (fun r s1 => r = none /\ Inv X pins σ H s1) E s
  self : ∀ (A : Around) (i : Nat) (s : Shared) (Q : Value -> Shared -> Prop) (E : Value -> Shared -> Prop), tn i s.heap -> Q (.ref it) s -> wpAny (model P w) A (pyIter (.ref it)) Q E s
abbrev TI := St -> Hp -> (It -> Hp -> Prop) -> Prop
def PIE (X : Cx) (pins : List (Addr × Obj)) (σ : St) (tg : Expr) (R : It -> Hp -> Prop) (itv : Value) (s2 : Shared) : Prop :=
  ∃ (it : Addr) (fp : List Addr) (tn : Nat -> Heap -> Prop) (J : It) (H' : Hp), itv = .ref it /\ Inv X pins σ H' s2 /\ Turn X.prog X.w X.K tg J fp it tn /\ tn 0 s2.heap /\ (∀ b ∈ fp, FpOk X pins H' b) /\ R J H'
def PI (X : Cx) (tg iter : Expr) (wi : TI) : Prop :=
  ∀ (pins : List (Addr × Obj)) (s : Shared) (σ : St) (H : Hp) (R : It -> Hp -> Prop), Inv X pins σ H s -> wi σ H R ->
    wpAny (model X.prog X.w) X.A (eval iter X.env) (fun v s1 => wpAny (model X.prog X.w) X.A (pyIter v) (PIE X pins σ tg R) X.xe s1) X.xe s
theorem go_of {M : Model} {A : Around} {E : Value -> Shared -> Prop} {s : Shared} {tg : Expr} {it : Addr} {u : Value} {o : Obj} {n : String} {vs : Array Value} {Q : Unit -> Shared -> Prop} (ho : s.heap.get? it = some o) (hc : o.cls = .type n) (hd : o.data = .fields vs)
    (hn : ["enumerate", "zip", "dict_itemiterator", "dict_reverseitemiterator", "odict_iterator", "itertools.zip_longest", "itertools.pairwise"].contains n = false) (hQ : Q () s) : wpAny M A (letOwnedTupleGo tg (.ref it) u) Q E s := by
  unfold letOwnedTupleGo
  cases tg <;> first
    | exact wpAny_pure hQ
    | (cases u <;> first
        | exact wpAny_pure hQ
        | (refine wpAny_bind (wpAny_load ho ?_)
           rw [hc, hd]
           show wpAny M A (if (["enumerate", "zip", "dict_itemiterator", "dict_reverseitemiterator", "odict_iterator", "itertools.zip_longest", "itertools.pairwise"].contains n && vs[0]? == some (rawInt _)) = true then _ else _) Q E s
           rw [if_neg (by intro h; rw [hn, Bool.false_and] at h; cases h)]
           exact wpAny_pure hQ))
def Itl (K : PySem.W.Frag) (a : Addr) : It :=
  ⟨fun i H => ∃ xs x, SqL K H a xs /\ xs[i]? = some x, fun i H x H' => H' = H /\ ∀ xs, SqL K H a xs -> xs[i]? = some x, fun i H => ∃ xs, SqL K H a xs /\ xs.length <= i⟩
def Itt (K : PySem.W.Frag) (a : Addr) : It :=
  ⟨fun i H => ∃ xs x, SqT K H a xs /\ xs[i]? = some x, fun i H x H' => H' = H /\ ∀ xs, SqT K H a xs -> xs[i]? = some x, fun i H => ∃ xs, SqT K H a xs /\ xs.length <= i⟩
def Itr (lo : Int) (n : Nat) : It := ⟨fun i _ => i < n, fun i H x H' => H' = H /\ x = .int (lo + i), fun i _ => n <= i⟩
theorem turn_list {P : Program} {w : World} {K : PySem.W.Frag} {tg : Expr} (a it : Addr) : Turn P w K tg (Itl K a) [it] it (fun i h => h.IsListIter it a i) where
  mem := by simp
  obj := fun i h st b hb => by
    have e : b = it := by simpa using hb
    subst e
    obtain ⟨o, e, c, d⟩ := st
    exact ⟨o, e, fun v z => by rw [d] at z; cases z⟩
  keep := fun i h h' st k => st.at fun o e => k it (by simp) o e
  item := by
    intro X hP hw hK hc i pins s σ H E I hf st hg
    subst hP hw hK
    obtain ⟨xs, x, hq, hx⟩ := hg
    obtain ⟨its, rv, p, hz⟩ := I.list hq
    obtain ⟨u, hu, ru⟩ := rv.get hx
    obtain ⟨f0, f1, f2, f3, f4, f5⟩ := hf it (by simp)
    refine wpAny_pyNext_list_item st p.isList (x := u) (by simpa using hu) fun h' st' sb => ?_
    have I1 : Inv X pins σ H { s with heap := h' } := I.turned (t' := s.toks) (fun b o hb e => (sb.2 b hb).trans e) f0 f1 f3 f4 f5
    obtain ⟨o, e, c, d⟩ := id st'
    exact ⟨u, rfl, go_of (s := { s with heap := h' }) e c d (by decide) ⟨x, H, I1, ru, ⟨rfl, fun ys hy => by rw [I.list_inj hy hq]; exact hx⟩, st', fun b hb => (hf b hb).1⟩⟩
  done := by
    intro X hP hw hK hc i pins s σ H E I hf st hg
    subst hP hw hK
    obtain ⟨xs, hq, hx⟩ := hg
    obtain ⟨its, rv, p, hz⟩ := I.list hq
    obtain ⟨f0, f1, f2, f3, f4, f5⟩ := hf it (by simp)
    have hl := rv.length
    exact wpAny_pyNext_list_end (I.ok.hd hc) st p.isList (by simp; omega) fun h' eb => ⟨rfl, I.turned (t' := s.toks) (fun b o hb e => eb b o hb e) f0 f1 f3 f4 f5⟩
  self := fun _ _ _ _ _ st h => wpAny_pyIter_listiter st h
theorem turn_tuple {P : Program} {w : World} {K : PySem.W.Frag} {tg : Expr} (a it : Addr) : Turn P w K tg (Itt K a) [it] it (fun i h => h.IsTupleIter it a i) where
  mem := by simp
  obj := fun i h st b hb => by
    have e : b = it := by simpa using hb
    subst e
    obtain ⟨o, e, c, d⟩ := st
    exact ⟨o, e, fun v z => by rw [d] at z; cases z⟩
  keep := fun i h h' st k => st.at fun o e => k it (by simp) o e
  item := by
    intro X hP hw hK hc i pins s σ H E I hf st hg
    subst hP hw hK
    obtain ⟨xs, x, hq, hx⟩ := hg
    obtain ⟨its, rv, p, hz⟩ := I.tuple hq
    obtain ⟨u, hu, ru⟩ := rv.get hx
    obtain ⟨f0, f1, f2, f3, f4, f5⟩ := hf it (by simp)
    refine wpAny_pyNext_tuple_item st (show s.heap.IsTuple a its.toArray from p) (x := u) (by simpa using hu) fun h' st' sb => ?_
    have I1 : Inv X pins σ H { s with heap := h' } := I.turned (t' := s.toks) (fun b o hb e => (sb.2 b hb).trans e) f0 f1 f3 f4 f5
    obtain ⟨o, e, c, d⟩ := id st'
    exact ⟨u, rfl, go_of (s := { s with heap := h' }) e c d (by decide) ⟨x, H, I1, ru, ⟨rfl, fun ys hy => by rw [I.tuple_inj hy hq]; exact hx⟩, st', fun b hb => (hf b hb).1⟩⟩
  done := by
    intro X hP hw hK hc i pins s σ H E I hf st hg
    subst hP hw hK
    obtain ⟨xs, hq, hx⟩ := hg
    obtain ⟨its, rv, p, hz⟩ := I.tuple hq
    obtain ⟨f0, f1, f2, f3, f4, f5⟩ := hf it (by simp)
    have hl := rv.length
    exact wpAny_pyNext_tuple_end (I.ok.hd hc) st (show s.heap.IsTuple a its.toArray from p) (by simp; omega) fun h' eb => ⟨rfl, I.turned (t' := s.toks) (fun b o hb e => eb b o hb e) f0 f1 f3 f4 f5⟩
  self := fun _ _ _ _ _ st h => wpAny_pyIter_tupleiter st h
theorem turn_range {P : Program} {w : World} {K : PySem.W.Frag} {tg : Expr} (it : Addr) (lo : Int) (n : Nat) : Turn P w K tg (Itr lo n) [it] it (fun i h => IsRangeIter h it (lo + (i : Nat) * 1) ((n : Int) - (i : Nat)) 1) where
  mem := by simp
  obj := fun i h st b hb => by
    have e : b = it := by simpa using hb
    subst e
    exact ⟨_, st, fun v z => by
      have z' : Data.fields _ = Data.cell v := z
      cases z'⟩
  keep := fun i h h' st k => k it (by simp) _ st
  item := by
    intro X hP hw hK hc i pins s σ H E I hf st hg
    subst hP hw hK
    obtain ⟨f0, f1, f2, f3, f4, f5⟩ := hf it (by simp)
    have W := Walks.range (prog := X.prog) (w := X.w) (I.ok.hd hc) it lo 1 n
    refine W.item i s _ _ hg st fun v h' tk hv st' kk => ?_
    obtain ⟨t, rfl⟩ := hv
    have I1 : Inv X pins σ H { s with heap := h', toks := tk } := I.turned (fun b o hb e => kk b o (by simpa using hb) e) f0 f1 f3 f4 f5
    refine ⟨_, rfl, go_of (s := { s with heap := h', toks := tk }) (n := "range_iterator") st' rfl rfl (by decide) ⟨.int (lo + i), H, I1, ⟨t, ?_⟩, ⟨rfl, rfl⟩, st', fun b hb => (hf b hb).1⟩⟩
    rw [Int.mul_one]
  done := by
    intro X hP hw hK hc i pins s σ H E I hf st hg
    subst hP hw hK
    obtain ⟨f0, f1, f2, f3, f4, f5⟩ := hf it (by simp)
    exact wpAny_pyNext_range_end (I.ok.hd hc) st (by have : n <= i := hg; omega) fun h' eb => ⟨rfl, I.turned (t' := s.toks) (fun b o hb e => eb b o hb e) f0 f1 f3 f4 f5⟩
  self := fun _ _ _ _ _ st h => wpAny_pyIter_rangeiter st h
end L2
namespace L2
open PySem PySem.Spec PyProof.Rows
section
variable {X : Cx} {tg : Expr}
def iList (K : PySem.W.Frag) (tl : TE) : TI := fun σ H R => tl σ H fun x H1 => ∃ a, x = .ref a /\ (∃ xs, SqL K H1 a xs) /\ R (Itl K a) H1
def iTup (K : PySem.W.Frag) (tl : TE) : TI := fun σ H R => tl σ H fun x H1 => ∃ a, x = .ref a /\ (∃ xs, SqT K H1 a xs) /\ R (Itt K a) H1
theorem pi_list {l : Expr} {tl : TE} (hl : PE X l tl) : PI X tg l (iList X.K tl) := by
  intro pins s σ H R I h
  refine thn (hl pins s σ H _ I h) fun v s1 ⟨x, H1, I1, r1, q1⟩ => ?_
  obtain ⟨a, e, ⟨xs, hq⟩, q⟩ := q1
  subst e
  cases r1
  obtain ⟨its, rv, p, hz⟩ := I1.list hq
  refine wpAny_pyIter_list p.isList ?_
  refine ⟨s1.heap.objs.size, [s1.heap.objs.size], _, _, H1, rfl, I1.kept (t' := s1.toks) fun b o e => Heap.get?_push_of_some _ e, turn_list a _, ⟨_, Heap.get?_push_size _ rfl, rfl, rfl⟩, fun b hb => ?_, q⟩
  have e : b = s1.heap.objs.size := by simpa using hb
  subst e
  exact I1.fpOk (Nat.le_refl _) (I1.hok.fresh (Nat.le_refl _))
theorem pi_tup {l : Expr} {tl : TE} (hl : PE X l tl) : PI X tg l (iTup X.K tl) := by
  intro pins s σ H R I h
  refine thn (hl pins s σ H _ I h) fun v s1 ⟨x, H1, I1, r1, q1⟩ => ?_
  obtain ⟨a, e, ⟨xs, hq⟩, q⟩ := q1
  subst e
  cases r1
  obtain ⟨its, rv, p, hz⟩ := I1.tuple hq
  refine wpAny_pyIter_tuple (show s1.heap.IsTuple a its.toArray from p) ?_
  refine ⟨s1.heap.objs.size, [s1.heap.objs.size], _, _, H1, rfl, I1.kept (t' := s1.toks) fun b o e => Heap.get?_push_of_some _ e, turn_tuple a _, ⟨_, Heap.get?_push_size _ rfl, rfl, rfl⟩, fun b hb => ?_, q⟩
  have e : b = s1.heap.objs.size := by simpa using hb
  subst e
  exact I1.fpOk (Nat.le_refl _) (I1.hok.fresh (Nat.le_refl _))
theorem range_it {pins : List (Addr × Obj)} {σ : St} {H : Hp} {s : Shared} {R : It -> Hp -> Prop} {E : Value -> Shared -> Prop} {lo hi : Int} {t u v : Tok} {tk : Nat} (I : Inv X pins σ H s) (h1 : -(2 ^ 62) <= lo) (h2 : lo < 2 ^ 62) (h3 : -(2 ^ 62) <= hi) (h4 : hi < 2 ^ 62)
    (q : R (Itr lo (hi - lo).toNat) H) : wpAny (model X.prog X.w) X.A (pyIter (.ref s.heap.objs.size)) (PIE X pins σ tg R) E { s with heap := s.heap.push { cls := .type "range", data := .fields #[.int lo t, .int hi u, .int 1 v] }, toks := tk } := by
  refine wpAny_pyIter_range (IsRange.new ..) (small_one h1 h2 h3 h4) ?_
  have I1 : Inv X pins σ H { s with heap := s.heap.push { cls := .type "range", data := .fields #[.int lo t, .int hi u, .int 1 v] }, toks := tk } := I.kept fun b o e => Heap.get?_push_of_some _ e
  refine ⟨(s.heap.push { cls := .type "range", data := .fields #[.int lo t, .int hi u, .int 1 v] }).objs.size, [(s.heap.push { cls := .type "range", data := .fields #[.int lo t, .int hi u, .int 1 v] }).objs.size], _, _, H, rfl,
    I1.kept (t' := tk) fun b o e => Heap.get?_push_of_some _ e, turn_range _ lo (hi - lo).toNat, ?_, fun b hb => ?_, q⟩
  · have e1 : lo + ((0 : Nat) : Int) * 1 = lo := by simp
    have e2 : (((hi - lo).toNat : Nat) : Int) - ((0 : Nat) : Int) = Builtin.Range.rangeSize lo hi 1 := by rw [rangeSize_one]; split <;> omega
    show IsRangeIter _ _ (lo + ((0 : Nat) : Int) * 1) ((((hi - lo).toNat : Nat) : Int) - ((0 : Nat) : Int)) 1
    rw [e1, e2]
    exact Heap.get?_push_size _ rfl
  · have e : b = (s.heap.push { cls := .type "range", data := .fields #[.int lo t, .int hi u, .int 1 v] }).objs.size := by simpa using hb
    subst e
    exact I1.fpOk (Nat.le_refl _) (I1.hok.fresh (Nat.le_refl _))
def iRng1 (ta : TA) : TI := fun σ H R => ta σ H fun vs H1 => ∃ j : Int, vs = [.int j] /\ -(2 ^ 62) <= j /\ j < 2 ^ 62 /\ R (Itr 0 j.toNat) H1
def iRng2 (ta : TA) : TI := fun σ H R => ta σ H fun vs H1 => ∃ i j : Int, vs = [.int i, .int j] /\ (-(2 ^ 62) <= i /\ i < 2 ^ 62 /\ -(2 ^ 62) <= j /\ j < 2 ^ 62) /\ R (Itr i (j - i).toNat) H1
theorem pi_range1 {a : Expr} {ta : TA} {p pos : Pos} (hg : Gl X "range") (hm : X.mg "range" = none) (ha : PA X [a] ta) (hs : starEach [a] X.env = [(false, eval a X.env)] := by rfl) : PI X tg (.Call (.Name "range" p) [a] [] pos) (iRng1 ta) := by
  intro pins s σ H R I h
  refine Call_ (ld_blt I hg hm boot_range (PyProof.Rows.callWith_type1 (thn (ha pos pins s σ H _ I h) fun us s1 ⟨vs, H1, I1, r1, q1⟩ => ?_) hs rfl))
  obtain ⟨j, e, q1, q2, q⟩ := q1
  subst e
  cases r1 with
  | cons r rr =>
    cases rr
    obtain ⟨t, rfl⟩ := r
    exact call_range_1 (range_it I1 (by omega) (by omega) q1 q2 (by simpa using q))
theorem pi_range2 {a b : Expr} {ta : TA} {p pos : Pos} (hg : Gl X "range") (hm : X.mg "range" = none) (ha : PA X [a, b] ta) (hs : starEach [a, b] X.env = [(false, eval a X.env), (false, eval b X.env)] := by rfl) (hs2 : starEach [b] X.env = [(false, eval b X.env)] := by rfl) :
    PI X tg (.Call (.Name "range" p) [a, b] [] pos) (iRng2 ta) := by
  intro pins s σ H R I h
  refine Call_ (ld_blt I hg hm boot_range (PyProof.Rows.callWith_type1 (thn (ha pos pins s σ H _ I h) fun us s1 ⟨vs, H1, I1, r1, q1⟩ => ?_) (by rw [hs, hs2]) (by rw [hs2]; rfl)))
  obtain ⟨i, j, e, ⟨q1, q2, q3, q4⟩, q⟩ := q1
  subst e
  cases r1 with
  | cons r rr =>
    cases rr with
    | cons r' rr =>
      cases rr
      obtain ⟨t, rfl⟩ := r
      obtain ⟨t', rfl⟩ := r'
      exact call_range_2 (range_it I1 q1 q2 q3 q4 q)
def tFor (wi : TI) (g : TG) (tb : TS) : TS := fun D σ H => wi σ H fun J H1 => ∃ W : Nat -> Nat -> St -> Hp -> Prop, (∃ m, W 0 m σ H1) /\ ∀ i m σ H, W i m σ H ->
  (J.stop i H /\ D.nx σ H) \/ (J.go i H /\ ∃ N : St -> Hp -> Prop, (∀ σ' H', N σ' H' -> ∃ m', m' < m /\ W (i + 1) m' σ' H') /\ ∀ x H', J.yld i H x H' -> g x σ H' fun σ2 H2 => tb { D with nx := N, ct := N, bk := D.nx } σ2 H2)
def pinsAt (fp : List Addr) (h : Heap) : List (Addr × Obj) := fp.filterMap fun b => (h.get? b).map fun o => (b, o)
theorem mem_pinsAt {fp : List Addr} {h : Heap} {b : Addr} {o : Obj} (hb : b ∈ fp) (e : h.get? b = some o) : (b, o) ∈ pinsAt fp h := List.mem_filterMap.mpr ⟨b, hb, by rw [e]; rfl⟩
theorem of_pinsAt {fp : List Addr} {h : Heap} {p : Addr × Obj} (hp : p ∈ pinsAt fp h) : p.1 ∈ fp /\ h.get? p.1 = some p.2 := by
  obtain ⟨b, hb, e⟩ := List.mem_filterMap.mp hp
  cases q : h.get? b with
  | none => rw [q] at e; cases e
  | some o =>
    rw [q] at e
    have e' : (b, o) = p := Option.some.inj e
    subst e'
    exact ⟨hb, q⟩
theorem Inv.pinned {pins : List (Addr × Obj)} {σ : St} {H : Hp} {s : Shared} {fp : List Addr} (I : Inv X pins σ H s) (hf : ∀ b ∈ fp, FpOk X pins H b) (ho : ∀ b ∈ fp, ∃ o, s.heap.get? b = some o /\ ∀ v, o.data ≠ .cell v) : Inv X (pins ++ pinsAt fp s.heap) σ H s :=
  I.pins_of fun p hp => (List.mem_append.mp hp).elim (fun z => I.pin p (List.mem_append_right _ z)) fun z => by
    obtain ⟨hb, e⟩ := of_pinsAt z
    obtain ⟨f0, f1, f2, _⟩ := hf p.1 hb
    obtain ⟨o, e', d⟩ := ho p.1 hb
    rw [e] at e'; cases e'
    exact ⟨e, f0, f1, f2, d⟩
theorem Inv.unpinned {pins pl : List (Addr × Obj)} {σ : St} {H : Hp} {s : Shared} (I : Inv X (pins ++ pl) σ H s) : Inv X pins σ H s := I.pins_of fun p hp => I.pin p (List.mem_append_right _ (List.mem_append_left _ hp))
theorem ps_for {iter : Expr} {body : List Stmt} {wi : TI} {g : TG} {tb : TS} {pos : Pos} (hp : PassesOwn (model X.prog X.w) X.A X.env X.xe) (hc : X.calm = true) (hi : PI X tg iter wi) (hg : PG X tg g) (hb : PSs X body tb)
    (hs : ∀ x, foldedSetIterable iter X.env x = pure x := by intro _; rfl) : PS X (.For tg iter body [] pos) (tFor wi g tb) := by
  intro pins s σ H D I h
  refine wpAny_For (thn (hi pins s σ H _ I h) fun v s1 h1 => thn h1 fun itv s2 h2 => ?_) hs
  obtain ⟨it, fp, tn, J, H2, e, I2, T, st2, f2, W, ⟨m0, w0⟩, turn⟩ := h2
  subst e
  have stat : ∀ {H' : Hp}, (∀ b ∈ fp, H' b = none) -> ∀ b ∈ fp, FpOk X pins H' b := fun hn b hb => ⟨hn b hb, (f2 b hb).2⟩
  refine codeAny_forLoop_any (fun n s' => ∃ i σ' H', Inv X pins σ' H' s' /\ tn i s'.heap /\ (∀ b ∈ fp, H' b = none) /\ W i n σ' H') ?_ m0 ⟨0, σ, H2, I2, st2, fun b hb => (f2 b hb).1, w0⟩
  rintro n s3 ⟨i, σ3, H3, I3, st3, fr3, w3⟩
  rcases turn i n σ3 H3 w3 with ⟨stop, qn⟩ | ⟨go, N, hN, step⟩
  · refine wpAny_passesOwn hp (thn (T.done X rfl rfl rfl hc i pins s3 σ3 H3 X.xe I3 (stat fr3) st3 stop) fun r s4 ⟨hr, I4⟩ => ?_)
    subst hr
    exact wpAny_execs_nil ⟨σ3, H3, I4, qn⟩
  · refine wpAny_passesOwn hp (thn (T.item X rfl rfl rfl hc i pins s3 σ3 H3 X.xe I3 (stat fr3) st3 go) fun r s4 ⟨u, hr, h4⟩ => ?_)
    subst hr
    refine wpAny_passesOwn hp (thn h4 fun _ s5 ⟨x, H5, I5, r5, y5, st5, fr5⟩ => ?_)
    have I5' := I5.pinned (stat fr5) (T.obj _ _ st5)
    refine wpAny_passesOwn hp (thn (hg _ s5 σ3 H5 x u _ I5' r5 (step x H5 y5)) fun _ s6 ⟨σ6, H6, I6, q6⟩ => ?_)
    refine wpAny_passesOwn hp (thn (hb _ s6 σ6 H6 _ I6 q6) fun f s7 q7 => ?_)
    have again : ∀ {σ7 : St} {H7 : Hp}, Inv X (pins ++ pinsAt fp s5.heap) σ7 H7 s7 -> N σ7 H7 -> ∃ m, m < n /\ ∃ i σ' H', Inv X pins σ' H' s7 /\ tn i s7.heap /\ (∀ b ∈ fp, H' b = none) /\ W i m σ' H' := fun {σ7 H7} I7 n7 => by
      obtain ⟨m', hm, w7⟩ := hN σ7 H7 n7
      refine ⟨m', hm, i + 1, σ7, H7, I7.unpinned, T.keep _ _ _ st5 fun b hb o e => (I7.pin (b, o) (List.mem_append_right _ (List.mem_append_right _ (mem_pinsAt hb e)))).1, fun b hb => ?_, w7⟩
      obtain ⟨o, e, d⟩ := T.obj _ _ st5 b hb
      exact (I7.pin (b, o) (List.mem_append_right _ (List.mem_append_right _ (mem_pinsAt hb e)))).2.1
    cases f with
    | next => obtain ⟨σ7, H7, I7, n7⟩ := q7; exact again I7 n7
    | cont => obtain ⟨σ7, H7, I7, n7⟩ := q7; exact again I7 n7
    | brk => obtain ⟨σ7, H7, I7, q7⟩ := q7; exact ⟨σ7, H7, I7.unpinned, q7⟩
    | ret v => obtain ⟨x7, σ7, H7, I7, r7, q7⟩ := q7; exact ⟨x7, σ7, H7, I7.unpinned, r7, q7⟩
end
theorem for_list {K : PySem.W.Frag} {a : Addr} {xs : List V} {g : TG} {tb : TS} {D : Ends} {σ : St} {H : Hp} (Pv : Nat -> St -> Hp -> Prop) (h0 : Pv 0 σ H) (hl : ∀ i σ H, i <= xs.length -> Pv i σ H -> SqL K H a xs)
    (hs : ∀ i x σ H, xs[i]? = some x -> Pv i σ H -> g x σ H fun σ2 H2 => tb { D with nx := Pv (i + 1), ct := Pv (i + 1), bk := D.nx } σ2 H2) (hd : ∀ σ H, Pv xs.length σ H -> D.nx σ H) :
    ∃ W : Nat -> Nat -> St -> Hp -> Prop, (∃ m, W 0 m σ H) /\ ∀ i m σ H, W i m σ H ->
      ((Itl K a).stop i H /\ D.nx σ H) \/ ((Itl K a).go i H /\ ∃ N : St -> Hp -> Prop, (∀ σ' H', N σ' H' -> ∃ m', m' < m /\ W (i + 1) m' σ' H') /\ ∀ x H', (Itl K a).yld i H x H' -> g x σ H' fun σ2 H2 => tb { D with nx := N, ct := N, bk := D.nx } σ2 H2) := by
  refine ⟨fun i m σ H => m = xs.length - i /\ i <= xs.length /\ Pv i σ H, ⟨xs.length, by simp, Nat.zero_le _, h0⟩, ?_⟩
  rintro i m σ H ⟨rfl, hi, p⟩
  have q := hl i σ H hi p
  by_cases hlt : i < xs.length
  · refine .inr ⟨⟨xs, xs[i], q, by simp [hlt]⟩, Pv (i + 1), fun σ' H' p' => ⟨xs.length - (i + 1), by omega, rfl, hlt, p'⟩, fun x H' y => ?_⟩
    obtain ⟨e, y⟩ := y
    subst e
    exact hs i x σ _ (y xs q) p
  · have e : i = xs.length := by omega
    subst e
    exact .inl ⟨⟨xs, q, Nat.le_refl _⟩, hd σ H p⟩
theorem for_tup {K : PySem.W.Frag} {a : Addr} {xs : List V} {g : TG} {tb : TS} {D : Ends} {σ : St} {H : Hp} (Pv : Nat -> St -> Hp -> Prop) (h0 : Pv 0 σ H) (hl : ∀ i σ H, i <= xs.length -> Pv i σ H -> SqT K H a xs)
    (hs : ∀ i x σ H, xs[i]? = some x -> Pv i σ H -> g x σ H fun σ2 H2 => tb { D with nx := Pv (i + 1), ct := Pv (i + 1), bk := D.nx } σ2 H2) (hd : ∀ σ H, Pv xs.length σ H -> D.nx σ H) :
    ∃ W : Nat -> Nat -> St -> Hp -> Prop, (∃ m, W 0 m σ H) /\ ∀ i m σ H, W i m σ H ->
      ((Itt K a).stop i H /\ D.nx σ H) \/ ((Itt K a).go i H /\ ∃ N : St -> Hp -> Prop, (∀ σ' H', N σ' H' -> ∃ m', m' < m /\ W (i + 1) m' σ' H') /\ ∀ x H', (Itt K a).yld i H x H' -> g x σ H' fun σ2 H2 => tb { D with nx := N, ct := N, bk := D.nx } σ2 H2) := by
  refine ⟨fun i m σ H => m = xs.length - i /\ i <= xs.length /\ Pv i σ H, ⟨xs.length, by simp, Nat.zero_le _, h0⟩, ?_⟩
  rintro i m σ H ⟨rfl, hi, p⟩
  have q := hl i σ H hi p
  by_cases hlt : i < xs.length
  · refine .inr ⟨⟨xs, xs[i], q, by simp [hlt]⟩, Pv (i + 1), fun σ' H' p' => ⟨xs.length - (i + 1), by omega, rfl, hlt, p'⟩, fun x H' y => ?_⟩
    obtain ⟨e, y⟩ := y
    subst e
    exact hs i x σ _ (y xs q) p
  · have e : i = xs.length := by omega
    subst e
    exact .inl ⟨⟨xs, q, Nat.le_refl _⟩, hd σ H p⟩
theorem for_range {lo : Int} {n : Nat} {g : TG} {tb : TS} {D : Ends} {σ : St} {H : Hp} (Pv : Nat -> St -> Hp -> Prop) (h0 : Pv 0 σ H)
    (hs : ∀ i σ H, i < n -> Pv i σ H -> g (.int (lo + i)) σ H fun σ2 H2 => tb { D with nx := Pv (i + 1), ct := Pv (i + 1), bk := D.nx } σ2 H2) (hd : ∀ σ H, Pv n σ H -> D.nx σ H) :
    ∃ W : Nat -> Nat -> St -> Hp -> Prop, (∃ m, W 0 m σ H) /\ ∀ i m σ H, W i m σ H ->
      ((Itr lo n).stop i H /\ D.nx σ H) \/ ((Itr lo n).go i H /\ ∃ N : St -> Hp -> Prop, (∀ σ' H', N σ' H' -> ∃ m', m' < m /\ W (i + 1) m' σ' H') /\ ∀ x H', (Itr lo n).yld i H x H' -> g x σ H' fun σ2 H2 => tb { D with nx := N, ct := N, bk := D.nx } σ2 H2) := by
  refine ⟨fun i m σ H => m = n - i /\ i <= n /\ Pv i σ H, ⟨n, by simp, Nat.zero_le _, h0⟩, ?_⟩
  rintro i m σ H ⟨rfl, hi, p⟩
  by_cases hlt : i < n
  · refine .inr ⟨hlt, Pv (i + 1), fun σ' H' p' => ⟨n - (i + 1), by omega, rfl, hlt, p'⟩, fun x H' y => ?_⟩
    obtain ⟨e, y⟩ := y
    subst e y
    exact hs i σ _ hlt p
  · have e : i = n := by omega
    subst e
    exact .inl ⟨Nat.le_refl _, hd σ H p⟩
end L2
namespace L2
open PySem PySem.Spec PyProof.Rows
abbrev R2 := V -> V -> Hp -> VK -> Prop
def OpR (X : Cx) (f : Value -> Value -> Sem Value) (r : R2) : Prop :=
  ∀ (pins : List (Addr × Obj)) (s : Shared) (σ : St) (H : Hp) (x y : V) (v u : Value) (Q : VK), Inv X pins σ H s -> RelV x v -> RelV y u -> r x y H Q ->
    wpAny (model X.prog X.w) X.A (f v u) (EP X pins σ Q) X.xe s
def UnR (X : Cx) (f : Value -> Sem Value) (r : V -> Hp -> VK -> Prop) : Prop :=
  ∀ (pins : List (Addr × Obj)) (s : Shared) (σ : St) (H : Hp) (x : V) (v : Value) (Q : VK), Inv X pins σ H s -> RelV x v -> r x H Q ->
    wpAny (model X.prog X.w) X.A (f v) (EP X pins σ Q) X.xe s
def CallR (X : Cx) (f : Value) (r : List V -> Hp -> VK -> Prop) : Prop :=
  ∀ (pins : List (Addr × Obj)) (s : Shared) (σ : St) (H : Hp) (xs : List V) (us : List Value) (Q : VK), Inv X pins σ H s -> Vals xs us -> r xs H Q ->
    wpAny (model X.prog X.w) X.A (call f us) (EP X pins σ Q) X.xe s
def TruR (X : Cx) (r : V -> Hp -> (Bool -> Hp -> Prop) -> Prop) : Prop :=
  ∀ (pins : List (Addr × Obj)) (s : Shared) (σ : St) (H : Hp) (x : V) (v : Value) (Q : Bool -> Hp -> Prop), Inv X pins σ H s -> RelV x v -> r x H Q ->
    wpAny (model X.prog X.w) X.A (truthy v) (TP X pins σ Q) X.xe s
def tOp (r : R2) (ta tb : TE) : TE := fun σ H Q => ta σ H fun x H1 => tb σ H1 fun y H2 => r x y H2 Q
def tUn (r : V -> Hp -> VK -> Prop) (ta : TE) : TE := fun σ H Q => ta σ H fun x H1 => r x H1 Q
def rI (C : Int -> Int -> Prop) (g : Int -> Int -> V) : R2 := fun x y H Q => ∃ i j, x = .int i /\ y = .int j /\ C i j /\ Q (g i j) H
def rI0 (g : Int -> Int -> V) : R2 := fun x y H Q => ∃ i j, x = .int i /\ y = .int j /\ Q (g i j) H
def rU (g : Int -> V) : V -> Hp -> VK -> Prop := fun x H Q => ∃ i, x = .int i /\ Q (g i) H
section
variable {X : Cx} {a b c : Expr} {ta tb tc : TE} {pos : Pos}
theorem binT (ha : PE X a ta) (hb : PE X b tb) {pins : List (Addr × Obj)} {s : Shared} {σ : St} {H : Hp} {R : V -> V -> Hp -> Prop} (I : Inv X pins σ H s)
    (h : ta σ H fun x H1 => tb σ H1 fun y H2 => R x y H2) {Q : Value -> Shared -> Prop} {f : Value -> Value -> Sem Value}
    (hf : ∀ v u s2 x y H2, Inv X pins σ H2 s2 -> RelV x v -> RelV y u -> R x y H2 -> wpAny (model X.prog X.w) X.A (f v u) Q X.xe s2) :
    wpAny (model X.prog X.w) X.A (eval a X.env) (fun v s₁ => wpAny (model X.prog X.w) X.A (eval b X.env) (fun u s₂ => wpAny (model X.prog X.w) X.A (f v u) Q X.xe s₂) X.xe s₁) X.xe s := by
  refine thn (ha pins s σ H _ I h) fun v s1 ⟨x, H1, I1, r1, q1⟩ => ?_
  refine thn (hb pins s1 σ H1 _ I1 q1) fun u s2 ⟨y, H2, I2, r2, q2⟩ => ?_
  exact hf v u s2 x y H2 I2 r1 r2 q2
theorem pe_op {op : Operator} {r : R2} (ho : OpR X (binaryOp op) r) (ha : PE X a ta) (hb : PE X b tb) : PE X (.BinOp a op b pos) (tOp r ta tb) := by
  intro pins s σ H Q I h
  exact wpAny_BinOp (binT ha hb I h fun v u s2 x y H2 I2 rx ry q => ho pins s2 σ H2 x y v u Q I2 rx ry q)
theorem pe_un {op : UnaryOp} {r : V -> Hp -> VK -> Prop} (ho : UnR X (unaryOp op) r) (ha : PE X a ta) : PE X (.UnaryOp op a pos) (tUn r ta) := by
  intro pins s σ H Q I h
  exact UnaryOp_ (thn (ha pins s σ H _ I h) fun v s1 ⟨x, H1, I1, r1, q1⟩ => ho pins s1 σ H1 x v Q I1 r1 q1)
theorem opI {f : Value -> Value -> Sem Value} {C : Int -> Int -> Prop} {g : Int -> Int -> Int}
    (rule : ∀ (i j : Int) (t u : Tok) (s : Shared) (Q : Value -> Shared -> Prop) (E : Value -> Shared -> Prop), C i j -> Q (.int (g i j) s.toks) { s with toks := s.toks + 1 } -> wpAny (model X.prog X.w) X.A (f (.int i t) (.int j u)) Q E s) :
    OpR X f (rI C fun i j => .int (g i j)) := by
  intro pins s σ H x y v u Q I rx ry h
  obtain ⟨i, j, rfl, rfl, hc, q⟩ := h
  obtain ⟨t, rfl⟩ := rx
  obtain ⟨t', rfl⟩ := ry
  exact rule i j t t' s _ _ hc ⟨.int (g i j), H, I.tok _, ⟨_, rfl⟩, q⟩
theorem opI0 {f : Value -> Value -> Sem Value} {g : Int -> Int -> Int}
    (rule : ∀ (i j : Int) (t u : Tok) (s : Shared) (Q : Value -> Shared -> Prop) (E : Value -> Shared -> Prop), Q (.int (g i j) s.toks) { s with toks := s.toks + 1 } -> wpAny (model X.prog X.w) X.A (f (.int i t) (.int j u)) Q E s) :
    OpR X f (rI0 fun i j => .int (g i j)) := by
  intro pins s σ H x y v u Q I rx ry h
  obtain ⟨i, j, rfl, rfl, q⟩ := h
  obtain ⟨t, rfl⟩ := rx
  obtain ⟨t', rfl⟩ := ry
  exact rule i j t t' s _ _ ⟨.int (g i j), H, I.tok _, ⟨_, rfl⟩, q⟩
theorem opB0 {f : Value -> Value -> Sem Value} {g : Int -> Int -> Bool}
    (rule : ∀ (i j : Int) (t u : Tok) (s : Shared) (Q : Value -> Shared -> Prop) (E : Value -> Shared -> Prop), Q (.bool (g i j)) s -> wpAny (model X.prog X.w) X.A (f (.int i t) (.int j u)) Q E s) :
    OpR X f (rI0 fun i j => .bl (g i j)) := by
  intro pins s σ H x y v u Q I rx ry h
  obtain ⟨i, j, rfl, rfl, q⟩ := h
  obtain ⟨t, rfl⟩ := rx
  obtain ⟨t', rfl⟩ := ry
  exact rule i j t t' s _ _ ⟨.bl (g i j), H, I, rfl, q⟩
def CDiv (i j : Int) : Prop := 0 < j /\ j < 1073741824
def CPow (i j : Int) : Prop := 0 <= j /\ j <= 1000000 /\ i.natAbs < 2 ^ 64
def CMul (i j : Int) : Prop := (-(2 ^ 64) < i /\ i < 2 ^ 64) \/ (-(2 ^ 64) < j /\ j < 2 ^ 64)
theorem CMul.ok {i j : Int} (h : CMul i j) : IntMulOk i j := by
  rcases h with ⟨h1, h2⟩ | ⟨h1, h2⟩
  · exact .of_left (intBits_le_64 h1 h2)
  · exact .of_right (intBits_le_64 h1 h2)
theorem op_add : OpR X (binaryOp .Add) (rI0 fun i j => .int (i + j)) := opI0 fun _ _ _ _ _ _ _ q => add_int q
theorem op_sub : OpR X (binaryOp .Sub) (rI0 fun i j => .int (i - j)) := opI0 fun _ _ _ _ _ _ _ q => sub_int q
theorem op_mul : OpR X (binaryOp .Mult) (rI CMul fun i j => .int (i * j)) := opI fun _ _ _ _ _ _ _ hc q => mul_int q hc.ok
theorem op_fdiv : OpR X (binaryOp .FloorDiv) (rI CDiv fun i j => .int (i / j)) := opI fun i j _ _ _ _ _ hc q => by
  have h1 : (0 : Int) < j := hc.1
  have h2 : j < 1073741824 := hc.2
  exact floordiv_int (by omega) (by rw [Int.fdiv_eq_ediv_of_nonneg i (by omega)]; exact q) (.inl (PyProof.noPylong_small (by omega)))
theorem op_mod : OpR X (binaryOp .Mod) (rI (fun _ j => 0 < j) fun i j => .int (i % j)) := opI fun i j _ _ _ _ _ hc q => by
  have h1 : (0 : Int) < j := hc
  exact mod_int' (by omega) (by rw [Int.fmod_eq_emod_of_nonneg i (by omega)]; exact q)
theorem op_pow : OpR X (binaryOp .Pow) (rI CPow fun i j => .int (i ^ j.toNat)) := opI fun _ _ _ _ _ _ _ hc q => pow_int_small hc.1 hc.2.1 hc.2.2 q
theorem unI {f : Value -> Sem Value} {g : Int -> Int}
    (rule : ∀ (i : Int) (t : Tok) (s : Shared) (Q : Value -> Shared -> Prop) (E : Value -> Shared -> Prop), Q (.int (g i) s.toks) { s with toks := s.toks + 1 } -> wpAny (model X.prog X.w) X.A (f (.int i t)) Q E s) :
    UnR X f (rU fun i => .int (g i)) := by
  intro pins s σ H x v Q I rx h
  obtain ⟨i, rfl, q⟩ := h
  obtain ⟨t, rfl⟩ := rx
  exact rule i t s _ _ ⟨.int (g i), H, I.tok _, ⟨_, rfl⟩, q⟩
theorem un_neg : UnR X (unaryOp .USub) (rU fun i => .int (-i)) := unI fun _ _ _ _ _ q => neg_int q
end
def scal : V -> V -> Bool
  | .non, .non => true | .non, .int _ => true | .int _, .non => true | .non, .bl _ => true | .bl _, .non => true | .non, .str _ => true | .str _, .non => true
  | .int _, .int _ => true | .bl _, .bl _ => true | .str _, .str _ => true | .byt _, .byt _ => true
  | .int _, .str _ => true | .str _, .int _ => true | .bl _, .str _ => true | .str _, .bl _ => true
  | _, _ => false
def rEq : R2 := fun x y H Q => scal x y = true /\ Q (.bl (decide (x = y))) H
def rNe : R2 := fun x y H Q => scal x y = true /\ Q (.bl (!decide (x = y))) H
theorem dec_int {i j : Int} : decide (V.int i = V.int j) = (i == j) := by
  rw [Bool.eq_iff_iff]
  simp
theorem dec_bl {i j : Bool} : decide (V.bl i = V.bl j) = (i == j) := by
  rw [Bool.eq_iff_iff]
  simp
theorem dec_str {i j : Str} : decide (V.str i = V.str j) = (i == j) := by
  rw [Bool.eq_iff_iff]
  simp
theorem dec_byt {i j : Array UInt8} : decide (V.byt i = V.byt j) = (i.toList == j.toList) := by
  rw [Bool.eq_iff_iff]
  cases i
  cases j
  simp
section
variable {X : Cx} {a b c : Expr} {ta tb tc : TE} {pos : Pos}
theorem fin_bl {pins : List (Addr × Obj)} {σ : St} {H : Hp} {s : Shared} {Q : VK} {k k' : Bool} (I : Inv X pins σ H s) (q : Q (.bl k) H) (e : k = k') : EP X pins σ Q (.bool k') s := by
  subst e
  exact ⟨.bl k, H, I, rfl, q⟩
theorem op_eq : OpR X (compareOp .Eq) rEq := by
  intro pins s σ H x y v u Q I rx ry h
  obtain ⟨hs, q⟩ := h
  cases x with
  | non =>
    cases rx
    cases y with
    | non => cases ry; exact PySem.EqNone.eq_none_none (fin_bl I q (by simp))
    | bl j => cases ry; exact PySem.EqNone.eq_none_bool (fin_bl I q (by simp))
    | int j => obtain ⟨t', rfl⟩ := ry; exact PySem.EqNone.eq_none_int (fin_bl I q (by simp))
    | str j => obtain ⟨t', rfl⟩ := ry; exact PySem.EqNone.eq_none_str (fin_bl I q (by simp))
    | _ => exact absurd (show false = true from hs) Bool.false_ne_true
  | bl i =>
    cases rx
    cases y with
    | non => cases ry; exact PySem.EqNone.eq_bool_none (fin_bl I q (by simp))
    | bl j => cases ry; exact eq_bool (fin_bl I q dec_bl)
    | str j => obtain ⟨t', rfl⟩ := ry; exact PySem.EqMixed.eq_bool_str (fin_bl I q (by simp))
    | _ => exact absurd (show false = true from hs) Bool.false_ne_true
  | int i =>
    obtain ⟨t, rfl⟩ := rx
    cases y with
    | non => cases ry; exact PySem.EqNone.eq_int_none (fin_bl I q (by simp))
    | int j => obtain ⟨t', rfl⟩ := ry; exact eq_int (fin_bl I q dec_int)
    | str j => obtain ⟨t', rfl⟩ := ry; exact PySem.EqMixed.eq_int_str (fin_bl I q (by simp))
    | _ => exact absurd (show false = true from hs) Bool.false_ne_true
  | str i =>
    obtain ⟨t, rfl⟩ := rx
    cases y with
    | non => cases ry; exact PySem.EqNone.eq_str_none (fin_bl I q (by simp))
    | bl j => cases ry; exact PySem.EqMixed.eq_str_bool (fin_bl I q (by simp))
    | int j => obtain ⟨t', rfl⟩ := ry; exact PySem.EqMixed.eq_str_int (fin_bl I q (by simp))
    | str j => obtain ⟨t', rfl⟩ := ry; exact eq_str (fin_bl I q dec_str)
    | _ => exact absurd (show false = true from hs) Bool.false_ne_true
  | byt i =>
    obtain ⟨t, rfl⟩ := rx
    cases y with
    | byt j => obtain ⟨t', rfl⟩ := ry; exact PySem.W.eq_bytes (fin_bl I q dec_byt)
    | _ => exact absurd (show false = true from hs) Bool.false_ne_true
  | _ => cases y <;> exact absurd (show false = true from hs) Bool.false_ne_true
theorem op_ne : OpR X (compareOp .NotEq) rNe := by
  intro pins s σ H x y v u Q I rx ry h
  obtain ⟨hs, q⟩ := h
  cases x with
  | non =>
    cases rx
    cases y with
    | non => cases ry; exact PySem.EqNone.ne_none_none (fin_bl I q (by simp))
    | bl j => cases ry; exact PySem.EqNone.ne_none_bool (fin_bl I q (by simp))
    | int j => obtain ⟨t', rfl⟩ := ry; exact PySem.EqNone.ne_none_int (fin_bl I q (by simp))
    | str j => obtain ⟨t', rfl⟩ := ry; exact PySem.EqNone.ne_none_str (fin_bl I q (by simp))
    | _ => exact absurd (show false = true from hs) Bool.false_ne_true
  | bl i =>
    cases rx
    cases y with
    | non => cases ry; exact PySem.EqNone.ne_bool_none (fin_bl I q (by simp))
    | bl j => cases ry; exact ne_bool (fin_bl I q (congrArg not dec_bl))
    | str j => obtain ⟨t', rfl⟩ := ry; exact PySem.EqMixed.ne_bool_str (fin_bl I q (by simp))
    | _ => exact absurd (show false = true from hs) Bool.false_ne_true
  | int i =>
    obtain ⟨t, rfl⟩ := rx
    cases y with
    | non => cases ry; exact PySem.EqNone.ne_int_none (fin_bl I q (by simp))
    | int j => obtain ⟨t', rfl⟩ := ry; exact ne_int (fin_bl I q (congrArg not dec_int))
    | str j => obtain ⟨t', rfl⟩ := ry; exact PySem.EqMixed.ne_int_str (fin_bl I q (by simp))
    | _ => exact absurd (show false = true from hs) Bool.false_ne_true
  | str i =>
    obtain ⟨t, rfl⟩ := rx
    cases y with
    | non => cases ry; exact PySem.EqNone.ne_str_none (fin_bl I q (by simp))
    | bl j => cases ry; exact PySem.EqMixed.ne_str_bool (fin_bl I q (by simp))
    | int j => obtain ⟨t', rfl⟩ := ry; exact PySem.EqMixed.ne_str_int (fin_bl I q (by simp))
    | str j => obtain ⟨t', rfl⟩ := ry; exact ne_str (fin_bl I q (congrArg not dec_str))
    | _ => exact absurd (show false = true from hs) Bool.false_ne_true
  | byt i =>
    obtain ⟨t, rfl⟩ := rx
    cases y with
    | byt j => obtain ⟨t', rfl⟩ := ry; exact PySem.W.ne_bytes (fin_bl I q (congrArg not dec_byt))
    | _ => exact absurd (show false = true from hs) Bool.false_ne_true
  | _ => cases y <;> exact absurd (show false = true from hs) Bool.false_ne_true
theorem op_lt : OpR X (compareOp .Lt) (rI0 fun i j => .bl (decide (i < j))) := opB0 fun _ _ _ _ _ _ _ q => lt_int q
theorem op_isN : OpR X (compareOp .Is) (fun x y H Q => y = .non /\ Q (.bl (decide (x = .non))) H) := by
  intro pins s σ H x y v u Q I rx ry h
  obtain ⟨rfl, q⟩ := h
  cases ry
  refine is_none_gen (fin_bl I q ?_)
  cases x <;> first
    | (cases rx; rfl)
    | (obtain ⟨t, rfl⟩ := rx; rfl)
theorem op_notN : OpR X (compareOp .IsNot) (fun x y H Q => y = .non /\ Q (.bl (!decide (x = .non))) H) := by
  intro pins s σ H x y v u Q I rx ry h
  obtain ⟨rfl, q⟩ := h
  cases ry
  refine isnot_none_gen (fin_bl I q ?_)
  cases x <;> first
    | (cases rx; rfl)
    | (obtain ⟨t, rfl⟩ := rx; rfl)
theorem nomark (b : Expr) {op : CmpOp} (h : op ≠ .In := by decide) (h2 : op ≠ .NotIn := by decide) : behindInMarks op b = false := by
  have e1 : (op == CmpOp.In) = false := by cases op <;> first | rfl | exact absurd rfl h
  have e2 : (op == CmpOp.NotIn) = false := by cases op <;> first | rfl | exact absurd rfl h2
  cases b <;> simp [behindInMarks, e1, e2]
theorem pe_cmpR {op : CmpOp} {r : R2} (ho : OpR X (compareOp op) r) (ha : PE X a ta) (hb : PE X b tb) (hm : behindInMarks op b = false) : PE X (.Compare a [op] [b] pos) (tOp r ta tb) := by
  intro pins s σ H Q I h
  exact wpAny_Compare1 (binT ha hb I h fun v u s2 x y H2 I2 rx ry q => ho pins s2 σ H2 x y v u Q I2 rx ry q) hm
def tTest (t : TE) : TT := fun σ H Q => t σ H fun x H' => ∃ k, x = .bl k /\ Q k H'
theorem pt_cmpR {op : CmpOp} {r : R2} (ho : OpR X (compareOp op) r) (ha : PE X a ta) (hb : PE X b tb) (hm : behindInMarks op b = false) : PT X (.Compare a [op] [b] pos) (tTest (tOp r ta tb)) := by
  intro pins s σ H Q I h
  refine wpAny_isTrue_Compare1 (thn (ha pins s σ H _ I h) fun v s1 ⟨x, H1, I1, r1, q1⟩ => thn (hb pins s1 σ H1 _ I1 q1) fun u s2 ⟨y, H2, I2, r2, q2⟩ =>
    thn (ho pins s2 σ H2 x y v u _ I2 r1 r2 q2) fun c s3 ⟨z, H3, I3, r3, k, e, q3⟩ => ?_) hm
  subst e
  cases r3
  exact wpAny_truthy_bool ⟨H3, I3, q3⟩
def TruV (K : PySem.W.Frag) (x : V) (H : Hp) (k : Bool) : Prop :=
  match x with
  | .non => k = false
  | .bl b => k = b
  | .int i => k = (i != 0)
  | .str y => y.length <= sizeLine /\ k = ((y.length : Int) != 0)
  | .byt y => y.size <= sizeLine /\ k = ((y.size : Int) != 0)
  | .ref p => (∃ xs, SqL K H p xs /\ k = !xs.isEmpty) \/ (∃ xs, SqT K H p xs /\ k = !xs.isEmpty) \/ ∃ kvs, H p = some (.dK kvs) /\ k = !kvs.isEmpty
  | _ => False
theorem isEmpty_kv {κ : Type} {kvs : List (κ × V)} {vs : List (κ × Value)} (r : KV kvs vs) : (!vs.isEmpty) = !kvs.isEmpty := by
  cases r <;> rfl
theorem isEmpty_of {xs : List V} {its : List Value} (r : Vals xs its) : (!its.toArray.isEmpty) = !xs.isEmpty := by
  cases r <;> simp
theorem line63 : (sizeLine : Nat) < 2 ^ 63 := by rw [sizeLine_eq]; decide
theorem tru_ok : TruR X (fun x H Q => ∃ k, TruV X.K x H k /\ Q k H) := by
  intro pins s σ H x v Q I rx h
  obtain ⟨k, e, q⟩ := h
  have hl := line63
  have hs : sizeLine = 16777216 := sizeLine_eq
  cases x with
  | non =>
    cases rx
    have e' : k = false := e
    subst e'
    exact truthy_none ⟨H, I, q⟩
  | bl b =>
    cases rx
    have e' : k = b := e
    subst e'
    exact wpAny_truthy_bool ⟨H, I, q⟩
  | int i =>
    obtain ⟨t, rfl⟩ := rx
    have e' : k = (i != 0) := e
    subst e'
    exact PySem.P.truthy_int ⟨H, I, q⟩
  | str y =>
    obtain ⟨t, rfl⟩ := rx
    obtain ⟨hy, e'⟩ : y.length <= sizeLine /\ k = ((y.length : Int) != 0) := e
    subst e'
    exact PySem.P.truthy_str (by omega) ⟨H, I.tok _, q⟩
  | byt y =>
    obtain ⟨t, rfl⟩ := rx
    obtain ⟨hy, e'⟩ : y.size <= sizeLine /\ k = ((y.size : Int) != 0) := e
    subst e'
    exact PySem.W.truthy_bytes (by omega) ⟨H, I.tok _, q⟩
  | ref p =>
    cases rx
    have e' : (∃ xs, SqL X.K H p xs /\ k = !xs.isEmpty) \/ (∃ xs, SqT X.K H p xs /\ k = !xs.isEmpty) \/ ∃ kvs, H p = some (.dK kvs) /\ k = !kvs.isEmpty := e
    rcases e' with ⟨xs, hx, e'⟩ | ⟨xs, hx, e'⟩ | ⟨kvs, hx, e'⟩
    · subst e'
      obtain ⟨its, r, pl, hz⟩ := I.list hx
      have hlen := r.length
      exact wpAny_truthy_list pl.isList (by simp only [List.size_toArray]; omega) ⟨H, I.tok _, by rw [isEmpty_of r]; exact q⟩
    · subst e'
      obtain ⟨its, r, pl, hz⟩ := I.tuple hx
      have hlen := r.length
      exact truthy_tuple pl (by simp only [List.size_toArray]; omega) ⟨H, I.tok _, by rw [isEmpty_of r]; exact q⟩
    · subst e'
      obtain ⟨hz, hS, vs, r, m⟩ : kvs.length <= sizeLine /\ (p == sysModules) = false /\ ∃ vs, KV kvs vs /\ s.heap.DictOf (mixKind X.prog X.w) p vs := I.hok p _ hx
      have hlen : kvs.length = vs.length := Paired.length r
      exact wpAny_truthy_dict hS m (by omega) ⟨H, I.tok _, by rw [isEmpty_kv r]; exact q⟩
  | _ => exact (show False from e).elim
theorem pt_truth (ha : PE X a ta) (he : ∀ whole, isTrue a X.env whole = (do let v <- whole; standAt a.pos; holding [v] (truthy v))) :
    PT X a (fun σ H Q => ta σ H fun x H' => ∃ k, TruV X.K x H' k /\ Q k H') := by
  intro pins s σ H Q I h
  exact isTrue_plain (thn (ha pins s σ H _ I h) fun v s1 ⟨x, H1, I1, r1, q1⟩ => tru_ok pins s1 σ H1 x v Q I1 r1 q1) (he _)
theorem op_add_str : OpR X (binaryOp .Add) (fun x y H Q => ∃ i j, x = .str i /\ y = .str j /\ i.length + j.length <= sizeLine /\ Q (.str (i ++ j)) H) := by
  intro pins s σ H x y v u Q I rx ry h
  obtain ⟨i, j, rfl, rfl, hz, q⟩ := h
  obtain ⟨t, rfl⟩ := rx
  obtain ⟨t', rfl⟩ := ry
  exact add_str (fun t' tk => ⟨.str (i ++ j), H, I.tok _, ⟨_, rfl⟩, q⟩) hz
theorem vals1 {x : V} {us : List Value} (r : Vals [x] us) : ∃ u, us = [u] /\ RelV x u := by
  cases r with
  | cons r1 r2 => cases r2; exact ⟨_, rfl, r1⟩
theorem vals2 {x y : V} {us : List Value} (r : Vals [x, y] us) : ∃ u w', us = [u, w'] /\ RelV x u /\ RelV y w' := by
  cases r with
  | cons r1 r2 =>
    cases r2 with
    | cons r3 r4 => cases r4; exact ⟨_, _, rfl, r1, r3⟩
end
end L2
namespace L2
open PySem PySem.Spec PyProof.Rows
structure ObjM (h : Heap) (x dx C : Addr) (mA : Str -> Option Value) : Prop where
  obj : h.get? x = some (PySem.W.instObj C dx)
  ns : h.Ns1 dx mA
  ne : dx ≠ x
theorem lookIn_ns {h : Heap} {dx : Addr} {mA : Str -> Option Value} (n : h.Ns1 dx mA) : ∃ od, h.get? dx = some od /\ ∀ name, PySem.W.lookIn name od = some (mA name) := by
  obtain ⟨o, es, ep, ho, hd, hk, _, hm⟩ := n
  refine ⟨o, ho, fun name => ?_⟩
  have e := hm name
  unfold nsFind findBy at e
  rw [<- Array.find?_toList] at e
  unfold PySem.W.lookIn
  rw [hd]
  dsimp only
  split
  · rename_i y q
    rw [q] at e
    exact congrArg some e
  · rename_i q
    rw [q] at e
    have a : es.toList.any (·.refKey) = false := by
      rw [List.any_eq_false]
      intro y hy
      obtain ⟨z, t, hkey⟩ := hk y (Array.mem_toList_iff.mp hy)
      simp [DictEntry.refKey, hkey]
    have a' : ¬ es.toList.any (·.refKey) = true := by rw [a]; exact Bool.false_ne_true
    rw [if_neg a']
    exact congrArg some e
theorem ObjM.look {h : Heap} {x dx C : Addr} {mA : Str -> Option Value} (I : ObjM h x dx C mA) : ∃ od, PySem.W.InstAt h x (PySem.W.instObj C dx) C (some od) /\ ∀ name, PySem.W.lookIn name od = some (mA name) :=
  let ⟨od, ho, hl⟩ := lookIn_ns I.ns
  ⟨od, ⟨I.obj, rfl, rfl, ho⟩, hl⟩
section
variable {prog : Program} {w : World} {A : Around} {E : Value -> Shared -> Prop} {s : Shared} {K : PySem.W.Frag} {x dx C f : Addr} {mA : Str -> Option Value} {name : Str} {v : Value}
end
theorem RelO.some_of {v : V} {o : Option Value} (r : RelO (some v) o) : ∃ u, o = some u /\ RelV v u := by
  cases o with
  | none => exact (show False from r).elim
  | some u => exact ⟨u, rfl, r⟩
theorem handed_of {v : V} {u : Value} (r : RelV v u) : PySem.W.handedIn u = true := by
  cases v with
  | non => cases (show u = Value.none from r); rfl
  | bl b => cases (show u = Value.bool b from r); rfl
  | int i => obtain ⟨t, e⟩ := (show ∃ t, u = Value.int i t from r); cases e; rfl
  | str x => obtain ⟨t, e⟩ := (show ∃ t, u = Value.str x t from r); cases e; rfl
  | byt b => obtain ⟨t, e⟩ := (show ∃ t, u = Value.bytes b t from r); cases e; rfl
  | flt b => obtain ⟨t, e⟩ := (show ∃ t, u = Value.float b t from r); cases e; rfl
  | ref a => cases (show u = Value.ref a from r); rfl
  | ty n => cases (show u = Value.type n from r); rfl
section
variable {P : Program} {w : World} {H H' : Hp} {h h' : Heap} {a C dx : Addr} {fs fs' : List (Str × V)}
theorem ins_get (hok : HOk P w H h) (e : H a = some (.ins C dx fs)) : ∃ mA, ObjM h a dx C mA /\ (∀ f, RelO (fs.lookup f) (mA f)) /\ PySem.Within mA (fs.map (·.1)) /\ fs.length <= 1000 /\ H dx = some (.own a) := by
  obtain ⟨d, z, ne, ob, mA, n, r, q⟩ := (show ObjOk P w H h a (.ins C dx fs) from hok a _ e)
  exact ⟨mA, ⟨ob, n, ne⟩, r, q, z, d⟩
end
structure Cls (K : PySem.W.Frag) (C : Addr) : Prop where
  pg : PySem.W.plainGet K C Str.empty = true
  hd : PySem.W.hasDictIn K C = true
  po : PySem.W.plainOver K C = true
  sa : PySem.W.findIn K (.ref C) "__setattr__" = some (some (.builtin "object.__setattr__"))
theorem Cls.get {K : PySem.W.Frag} {C : Addr} (c : Cls K C) (f : Str) : PySem.W.plainGet K C f = true := c.pg
structure Meth (K : PySem.W.Frag) (C : Addr) (m : Str) (f : Addr) : Prop where
  at_ : PySem.W.findIn K (.ref C) m = some (some (.ref f))
  fn : PySem.W.isFn K (.ref f) = true
  kp : PySem.W.keepIn K (.ref f) = true
section
variable {X : Cx} {pins : List (Addr × Obj)} {σ : St} {H : Hp} {s : Shared} {a C dx : Addr} {fs : List (Str × V)} {f : Str} {v : V} {A : Around} {E : Value -> Shared -> Prop}
theorem attr_of {prog : Program} {w : World} {env : Env} {e : Expr} {f : Str} {pos : Pos} {s : Shared} {Q : Value -> Shared -> Prop} (hb : attributeBase e f env (eval e env) = eval e env)
    (h : wpAny (model prog w) A (eval e env) (fun o s₁ => wpAny (model prog w) A (getAttr o f true) Q E s₁) E s) : wpAny (model prog w) A (eval (.Attribute e f pos) env) Q E s :=
  Attribute_any_ h (by rw [arm_eval_Attribute, hb])
end
section
variable {X : Cx} {o e value : Expr} {f : Str} {pos pos' tpos : Pos} {ta tv : TE}
end
section
variable {X : Cx} {pins : List (Addr × Obj)} {σ : St} {H : Hp} {s : Shared} {A : Around} {E : Value -> Shared -> Prop} {Q : Value -> Shared -> Prop} {c : Value} {b : Bool}
inductive TyOf (K : PySem.W.Frag) (H : Hp) : V -> Value -> Prop where
  | non : TyOf K H .non (.type "NoneType")
  | bl (x : Bool) : TyOf K H (.bl x) (.type "bool")
  | int (i : Int) : TyOf K H (.int i) (.type "int")
  | str (x : Str) : TyOf K H (.str x) (.type "str")
  | flt (x : UInt64) : TyOf K H (.flt x) (.type "float")
  | lst {a : Addr} {xs : List V} (e : H a = some (.lst xs)) : TyOf K H (.ref a) (.type "list")
  | frz {a : Addr} {o : Obj} {xs : List V} (e : H a = some (.frz o (.lst xs))) : TyOf K H (.ref a) (.type "list")
  | tup {a : Addr} {xs : List V} (e : H a = some (.tup xs)) : TyOf K H (.ref a) (.type "tuple")
  | dK {a : Addr} {kvs : List (Key × V)} (e : H a = some (.dK kvs)) : TyOf K H (.ref a) (.type "dict")
  | dT {a : Addr} {kvs : List (List Key × V)} (e : H a = some (.dT kvs)) : TyOf K H (.ref a) (.type "dict")
  | ins {a C dx : Addr} {fs : List (Str × V)} (e : H a = some (.ins C dx fs)) (cl : Cls K C) (ha : PySem.W.findIn K (.ref C) "__class__" = some (some (.builtin "object.__class__")))
      (hn : PySem.W.specialIn K (.builtin "object.__class__") "__get__" = some (some (.builtin "getset_descriptor.__get__"))) (htk : PySem.W.takesIn K (.builtin "object.__class__") = some true)
      (hm : PySem.W.mroIn K C (.type "object") = some true) : TyOf K H (.ref a) (.ref C)
theorem isinst_ok {x : V} {u t : Value} (I : Inv X pins σ H s) (rx : RelV x u) (ty : TyOf X.K H x t) (e : PySem.W.kitOne X.K t c = some b) (h : ∀ tk, Q (.bool b) { s with toks := tk }) :
    wpAny (model X.prog X.w) A (call (.builtin "isinstance") [u, c]) Q E s := by
  cases ty with
  | non => cases (show u = Value.none from rx); exact PySem.W.kia_one PySem.W.kitx_none I.kIn True.intro e (fun z => nomatch z) h
  | bl y => cases (show u = Value.bool y from rx); exact PySem.W.kia_one PySem.W.kitx_bool I.kIn True.intro e (fun z => nomatch z) h
  | int i => obtain ⟨t, q⟩ := (show ∃ t, u = Value.int i t from rx); cases q; exact PySem.W.kia_one PySem.W.kitx_int I.kIn True.intro e (fun z => nomatch z) h
  | str y => obtain ⟨t, q⟩ := (show ∃ t, u = Value.str y t from rx); cases q; exact PySem.W.kia_one PySem.W.kitx_str I.kIn True.intro e (fun z => nomatch z) h
  | flt y => obtain ⟨t, q⟩ := (show ∃ t, u = Value.float y t from rx); cases q; exact PySem.W.kia_one PySem.W.kitx_float I.kIn True.intro e (fun z => nomatch z) h
  | @lst a xs ea =>
    cases (show u = Value.ref a from rx)
    obtain ⟨_, _, n, _, h1⟩ := (show ObjOk X.prog X.w H s.heap a (.lst xs) from I.hok a _ ea)
    exact PySem.W.kia_one PySem.W.kitx_list I.kIn ⟨_, h1, rfl⟩ e (fun z => nomatch z) h
  | @frz a ob xs ea =>
    cases (show u = Value.ref a from rx)
    obtain ⟨_, _, _, n, _, h1⟩ := (show ObjOk X.prog X.w H s.heap a (.frz ob (.lst xs)) from I.hok a _ ea)
    exact PySem.W.kia_one PySem.W.kitx_list I.kIn ⟨_, h1, rfl⟩ e (fun z => nomatch z) h
  | @tup a xs ea =>
    cases (show u = Value.ref a from rx)
    obtain ⟨_, _, _, p⟩ := (show ObjOk X.prog X.w H s.heap a (.tup xs) from I.hok a _ ea)
    obtain ⟨o, h1, h2, _⟩ := p
    exact PySem.W.kia_one PySem.W.kitx_tuple I.kIn ⟨o, h1, h2⟩ e (fun z => nomatch z) h
  | @dK a kvs ea =>
    cases (show u = Value.ref a from rx)
    obtain ⟨_, _, vs, _, p⟩ := (show ObjOk X.prog X.w H s.heap a (.dK kvs) from I.hok a _ ea)
    obtain ⟨o, es, ep, h1, h2, _⟩ := p
    exact PySem.W.kia_one PySem.W.kitx_dict I.kIn ⟨o, h1, h2.1⟩ e (fun z => nomatch z) h
  | @dT a kvs ea =>
    cases (show u = Value.ref a from rx)
    obtain ⟨_, _, xs, _, o, es, ep, h1, h2, _⟩ := (show ObjOk X.prog X.w H s.heap a (.dT kvs) from I.hok a _ ea)
    exact PySem.W.kia_one PySem.W.kitx_dict I.kIn ⟨o, h1, h2.1⟩ e (fun z => nomatch z) h
  | @ins a C dx fs ea cl ha hn htk hm =>
    cases (show u = Value.ref a from rx)
    obtain ⟨mA, O, _⟩ := ins_get I.hok ea
    obtain ⟨od, J, _⟩ := O.look
    exact PySem.W.kia_one (PySem.W.kitx_own (cl.get _) cl.hd ha hn htk hm) I.kIn J e (fun z => nomatch z) h
end
end L2
namespace L2
open PySem PySem.Spec PyProof.Rows
structure Room (k : Nat) (A : Around) : Prop where
  hd : A.handled = none
  dp : A.depth + 3 * k + 5 < recursionLimit
  un : A.units + 16 * k + 200 < cLine
  gd : A.guards = some []
theorem Room.mono {j k : Nat} {A : Around} (r : Room k A) (h : j <= k) : Room j A := ⟨r.hd, by have := r.dp; omega, by have := r.un; omega, r.gd⟩
theorem Room.deeper {k : Nat} {A : Around} (r : Room (k + 1) A) (env : Env) : Room k (A.deeper env) :=
  ⟨r.hd, by have := r.dp; show A.depth + 1 + 3 * k + 5 < _; omega, by have := r.un; show A.units + 3 + 16 * k + 200 < _; omega, by first | exact r.gd | (show pushGuards _ A.guards = _; rw [r.gd]; rfl)⟩
theorem make_depth {A : Around} {C : Addr} {us : List Value} {kw : List (Str × Value)} : (A.under (.builtin "type.__call__" ⟨.ref C :: us, kw⟩)).depth = A.depth + 1 := by
  first | rfl | simp [Around.under, Code.weight, Code.isCreation, Code.isGuard, Code.isCaller, Code.frames, Code.isFrame, guardIds]
theorem make_units {A : Around} {C : Addr} {us : List Value} {kw : List (Str × Value)} : (A.under (.builtin "type.__call__" ⟨.ref C :: us, kw⟩)).units = A.units + 1 := by
  first | rfl | simp [Around.under, Code.cUnits, Code.frames, Code.isFrame]
theorem make_guards {A : Around} {C : Addr} {us : List Value} {kw : List (Str × Value)} (h : A.guards = some []) : (A.under (.builtin "type.__call__" ⟨.ref C :: us, kw⟩)).guards = some [] := by
  have e : (Code.builtin "type.__call__" ⟨.ref C :: us, kw⟩).guards = [] := by
    unfold Code.guards
    have : (Code.builtin "type.__call__" ⟨.ref C :: us, kw⟩).isGuard = false := by first | rfl | decide +kernel | simp [Code.isGuard, guardIds]
    rw [this]; rfl
  unfold Around.under
  simp only [e, h]
  rfl
theorem Room.make {k : Nat} {A : Around} (r : Room (k + 1) A) (C : Addr) (us : List Value) (kw : List (Str × Value)) : Room k (A.under (.builtin "type.__call__" ⟨.ref C :: us, kw⟩)) :=
  ⟨r.hd, by have := r.dp; rw [make_depth]; omega, by have := r.un; rw [make_units]; omega, make_guards r.gd⟩
theorem Room.depth {k : Nat} {A : Around} (r : Room k A) : A.depth < recursionLimit := by have := r.dp; omega
theorem Room.units {k : Nat} {A : Around} (r : Room k A) : A.units + 64 < cLine := by have := r.un; omega
def tNil : TA := fun _ H Q => Q [] H
def tCons (ta : TE) (tr : TA) : TA := fun σ H Q => ta σ H fun x H1 => tr σ H1 fun xs H2 => Q (x :: xs) H2
section
variable {X : Cx} {e : Expr} {es : List Expr} {te : TE} {t : TA} {pos : Pos}
theorem pa_nil : PA X [] tNil := fun _ _ _ _ H Q I h => Calls.spliced_nil ⟨[], H, I, .nil, h⟩
theorem pa_cons (ha : PE X e te) (hr : PA X es t) (hs : starEach (e :: es) X.env = (false, eval e X.env) :: starEach es X.env := by rfl) : PA X (e :: es) (tCons te t) := by
  intro pos pins s σ H Q I h
  rw [hs]
  show wpAny _ _ (spliced ((false, eval e X.env) :: backTo pos (starEach es X.env))) _ _ s
  refine Calls.spliced_cons (thn (ha pins s σ H _ I h) fun u s1 ⟨x, H1, I1, r1, q1⟩ => ?_)
  exact thn (hr pos pins s1 σ H1 _ I1 q1) fun us s2 ⟨xs, H2, I2, r2, q2⟩ => ⟨x :: xs, H2, I2, .cons r1 r2, q2⟩
def tTup (t : TA) : TE := fun σ H Q => t σ H fun xs H1 => xs.length <= sizeLine /\ ∀ p, H1 p = none -> Q (.ref p) (upd H1 p (.tup xs))
def tLst (t : TA) : TE := fun σ H Q => t σ H fun xs H1 => xs.length <= sizeLine /\ ∀ p, H1 p = none -> Q (.ref p) (upd H1 p (.lst xs))
theorem pe_tup {x1} (h : PA X es t) : PE X (.Tuple es x1 pos) (tTup t) := by
  intro pins s σ H Q I hq
  refine wpAny_Tuple_spliced (thn (h pos pins s σ H _ I hq) fun us s1 ⟨xs, H1, I1, r, z, q⟩ => ⟨by rw [<- r.length]; exact z, ?_⟩)
  have hf : H1 s1.heap.objs.size = none := I1.hok.fresh (Nat.le_refl _)
  refine ⟨.ref s1.heap.objs.size, upd H1 s1.heap.objs.size (.tup xs), I1.laid (t' := s1.toks) (fun b u e => Heap.get?_push_of_some _ e) (Nat.le_refl _) ?_, rfl, q _ hf⟩
  exact ⟨⟨z, TpN.new _ _ rfl⟩, us, r, ⟨_, Heap.get?_push_size _ rfl, rfl, _, rfl⟩⟩
theorem pe_lst (h : PA X es t) : PE X (.List es pos) (tLst t) := by
  intro pins s σ H Q I hq
  refine wpAny_List_spliced (thn (h pos pins s σ H _ I hq) fun us s1 ⟨xs, H1, I1, r, z, q⟩ => ⟨by rw [<- r.length]; exact z, ?_⟩)
  have hf : H1 s1.heap.objs.size = none := I1.hok.fresh (Nat.le_refl _)
  refine ⟨.ref s1.heap.objs.size, upd H1 s1.heap.objs.size (.lst xs), I1.laid (t' := s1.toks) (fun b u e => Heap.get?_push_of_some _ e) (Nat.le_refl _) ?_, rfl, q _ hf⟩
  exact ⟨z, us, 0, r, Heap.get?_push_size _ rfl⟩
end
abbrev Sp := List V -> Hp -> VK -> XK -> Prop
abbrev CXT := List Env -> Hp -> Shared -> XK -> Value -> Shared -> Prop
structure Env0 (P : Program) (w : World) (K : PySem.W.Frag) (mg : Str -> Option Value) (base : Heap) (A : Around) (outer : List Env) (s : Shared) (H : Hp) : Prop where
  frames : A.frames = some outer
  mod : Mod K mg base
  bs : ∀ b o, base.get? b = some o -> s.heap.get? b = some o /\ H b = none
  bsz : base.objs.size <= s.heap.objs.size
  funs : s.heap.FunFrames base outer
  frf : ∀ b ∈ frs outer, H b = none
  hok : HOk P w H s.heap
  bare : AllBare s.gens
def CE (outer : List Env) (P : Program) (w : World) (H : Hp) (s : Shared) (Q : VK) (u : Value) (s' : Shared) : Prop :=
  ∃ v H', s'.os = s.os /\ AllBare s'.gens /\ Un (frs outer) [] H H' s.heap s'.heap /\ HOk P w H' s'.heap /\ RelV v u /\ Q v H'
def CR (CX : CXT) (outer : List Env) (P : Program) (w : World) (H : Hp) (s : Shared) (Q : VK) (E : XK) (r : Result) (s' : Shared) : Prop :=
  match r with
  | .ok (.ret u) => CE outer P w H s Q u s'
  | .ok _ => False
  | .error e => CX outer H s E e s'
structure FnOk (P : Program) (w : World) (K : PySem.W.Frag) (mg : Str -> Option Value) (base : Heap) (CX : CXT) (k : Nat) (f : Addr) (fd : FuncData) (ps : List Str) (sp : Sp) : Prop where
  len : ∀ vs H Q E, sp vs H Q E -> vs.length = ps.length
  run : ∀ (A : Around) (outer : List Env) (s : Shared) (H : Hp) (args : Args) (us : List Value) (vs : List V) (Q : VK) (E : XK), Room k A -> Env0 P w K mg base A outer s H -> BindsTo s fd args (ps.zip us) -> Vals vs us -> sp vs H Q E ->
    codeAny (model P w) A (.call (.ref f) args) (CR CX outer P w H s Q E) s
theorem FnOk.mono {P : Program} {w : World} {K : PySem.W.Frag} {mg : Str -> Option Value} {base : Heap} {CX : CXT} {j k : Nat} {f : Addr} {fd : FuncData} {ps : List Str} {sp : Sp} (F : FnOk P w K mg base CX j f fd ps sp) (h : j <= k) :
    FnOk P w K mg base CX k f fd ps sp := ⟨F.len, fun A outer s H args us vs Q E hr => F.run A outer s H args us vs Q E (hr.mono h)⟩
theorem Env0.make {P : Program} {w : World} {K : PySem.W.Frag} {mg : Str -> Option Value} {base : Heap} {A : Around} {outer : List Env} {s : Shared} {H : Hp} (e : Env0 P w K mg base A outer s H) (C : Addr) (us : List Value) (kw : List (Str × Value)) :
    Env0 P w K mg base (A.under (.builtin "type.__call__" ⟨.ref C :: us, kw⟩)) outer s H := ⟨by first | exact e.frames | (simpa [Around.under, Code.envs, Code.isFrame, pushEnvs] using e.frames), e.mod, e.bs, e.bsz, e.funs, e.frf, e.hok, e.bare⟩
section
variable {X : Cx} {pins : List (Addr × Obj)} {σ : St} {H : Hp} {s s' : Shared}
theorem Inv.env0 (I : Inv X pins σ H s) : Env0 X.prog X.w X.K X.mg X.base X.A X.stack s H :=
  ⟨I.ok.frames, I.ok.mod, I.bs, Nat.le_trans I.ok.bsz I.sz, I.stack, I.stkFree, I.hok, I.bare⟩
theorem Inv.after {Q : VK} {u : Value} (I : Inv X pins σ H s) (h : CE X.stack X.prog X.w H s Q u s') : EP X pins σ Q u s' := by
  obtain ⟨v, H', os, bare, un, hok, r, q⟩ := h
  obtain ⟨hh, g, d, t, os'⟩ := s'
  obtain rfl : os' = s.os := os
  exact ⟨v, H', I.call (h' := hh) (g' := g) (d' := d) (t' := t) (ch := []) un hok bare (fun b z => absurd z (by simp)), r, q⟩
end
def tCall (sp : Sp) (dvs : List V) (E : XK) (t : TA) : TE := fun σ H Q => t σ H fun vs H1 => sp (vs ++ dvs) H1 Q E
def Binds (K : PySem.W.Frag) (fd : FuncData) (ps : List Str) (ds : List Value) : Prop :=
  ∀ (s : Shared) (us : List Value), K.In s.heap -> (us ++ ds).length = ps.length -> BindsTo s fd ⟨us, []⟩ (ps.zip (us ++ ds))
theorem Binds.all {K : PySem.W.Frag} {fd : FuncData} {ps : List Str} (h : ∀ us : List Value, us.length = ps.length -> bindArgs fd ⟨us, []⟩ = pure (ps.zip us)) : Binds K fd ps [] := fun s us _ hl => by
  rw [List.append_nil] at hl ⊢
  exact .of_eq (h us hl)
def Passes (CX : CXT) (X : Cx) (E : XK) : Prop := ∀ (pins : List (Addr × Obj)) (σ : St) (H : Hp) (s : Shared) (e : Value) (s' : Shared), Inv X pins σ H s -> CX X.stack H s E e s' -> X.xe e s'
section
variable {X : Cx} {CX : CXT} {k : Nat} {f C : Addr} {fd : FuncData} {ps : List Str} {sp : Sp} {dvs : List V} {ds : List Value} {E : XK} {x m : Str} {p pos apos : Pos} {e o : Expr} {es : List Expr} {ta : TE} {t : TA}
theorem run_fn {pins : List (Addr × Obj)} {σ : St} {H : Hp} {s : Shared} {Q : VK} {us : List Value} {vs : List V} (F : FnOk X.prog X.w X.K X.mg X.base CX k f fd ps sp) (hr : Room k X.A) (hb : Binds X.K fd ps ds) (hd : Vals dvs ds) (hx : Passes CX X E)
    (I : Inv X pins σ H s) (r : Vals vs us) (h : sp (vs ++ dvs) H Q E) : wpAny (model X.prog X.w) X.A (call (.ref f) us) (EP X pins σ Q) X.xe s := by
  have r2 : Vals (vs ++ dvs) (us ++ ds) := r.append hd
  have hl : (us ++ ds).length = ps.length := by rw [<- r2.length]; exact F.len _ _ _ _ h
  refine wpAny_call (codeAny_mono (F.run X.A X.stack s H ⟨us, []⟩ (us ++ ds) (vs ++ dvs) Q E hr I.env0 (hb s us I.kIn hl) r2 h) fun r s' hq => ?_)
  cases r with
  | error e => exact hx pins σ H s e s' I hq
  | ok fl =>
    cases fl with
    | ret u => exact I.after hq
    | next => exact False.elim hq
    | brk => exact False.elim hq
    | cont => exact False.elim hq
theorem pe_call (F : FnOk X.prog X.w X.K X.mg X.base CX k f fd ps sp) (hr : Room k X.A) (hg : Gl X x) (hm : X.mg x = some (.ref f)) (hk : PySem.W.keepIn X.K (.ref f) = true) (hb : Binds X.K fd ps ds) (hd : Vals dvs ds) (hx : Passes CX X E)
    (ha : PA X (e :: es) t) (hdb : (x == ("__debug__" : Str)) = false := by decide) (he : starEach (e :: es) X.env = (false, eval e X.env) :: starEach es X.env := by rfl) (hpl : (backTo pos (starEach es X.env)).any (·.1) = false := by rfl) :
    PE X (.Call (.Name x p) (e :: es) [] pos) (tCall sp dvs E t) := by
  intro pins s σ H Q I h
  refine wpAny_Call_Name_kw (ld_glob I hg hm ?_ hdb)
  refine PySem.W.callWith_K (h₀ := X.base) I.ok.mod.kin hk (thn (ha pos pins s σ H _ I h) fun us s1 ⟨vs, H1, I1, r, q⟩ => ⟨I1.kIn, ?_⟩) he hpl
  exact run_fn F hr hb hd hx I1 r q
end
section
variable {X : Cx} {CX : CXT} {k : Nat} {f C : Addr} {fd : FuncData} {ps ks : List Str} {sp : Sp} {E : XK} {x m : Str} {p pos apos kpos : Pos} {e o : Expr} {es : List Expr} {kws : List Keyword} {te ta : TE} {t tk : TA} {nm : Option Str}
variable {g : List Value -> List Value -> List Value} {gV : List V -> List V -> List V}
end
structure FnScope (N P : List Str) (sc : Scope) : Prop where
  kind : sc.kind = .function
  co : sc.isCoroutine = false
  gen : sc.isGenerator = false
  nd : N.Nodup
  pre : N.take P.length = P
  par : ∀ x ∈ P, sc.names.lookup x = some .local \/ sc.names.lookup x = some .cell
  nofree : ∀ y ∈ sc.names, y.2 ≠ .free
theorem bindL_out {kindOf : Str -> Option NameKind} {x : Str} : ∀ {binds : List (Str × Value)} {m : Str -> Option Value}, (∀ v, (x, v) ∉ binds) -> bindL kindOf binds m x = m x
  | [], _, _ => rfl
  | (n, v) :: r, m, h => by
    unfold bindL
    rw [bindL_out fun w hw => h w (List.mem_cons_of_mem _ hw)]
    split
    · have : x ≠ n := by rintro rfl; exact h v List.mem_cons_self
      simp [this]
    · rfl
theorem bindC_out {kindOf : Str -> Option NameKind} {x : Str} : ∀ {binds : List (Str × Value)} {m : Str -> Option Value}, (∀ v, (x, v) ∉ binds) -> bindC kindOf binds m x = m x
  | [], _, _ => rfl
  | (n, v) :: r, m, h => by
    unfold bindC
    rw [bindC_out fun w hw => h w (List.mem_cons_of_mem _ hw)]
    split
    · rfl
    · have : x ≠ n := by rintro rfl; exact h v List.mem_cons_self
      simp [this]
theorem bindL_get {kindOf : Str -> Option NameKind} {x : Str} {v : Value} : ∀ {P : List Str} {vs : List Value} {i : Nat} {m : Str -> Option Value}, P.Nodup -> P[i]? = some x -> vs[i]? = some v -> kindOf x = some .local ->
    bindL kindOf (P.zip vs) m x = some v
  | [], _, _, _, _, h, _, _ => by simp at h
  | _ :: _, [], _, _, _, _, h, _ => by simp at h
  | p :: P, w :: vs, 0, m, nd, h1, h2, hk => by
    simp at h1 h2; subst h1; subst h2
    show bindL kindOf ((p, w) :: P.zip vs) m p = _
    unfold bindL
    rw [bindL_out fun v hv => (List.nodup_cons.mp nd).1 (List.of_mem_zip hv).1, if_pos hk]
    simp
  | p :: P, w :: vs, i + 1, m, nd, h1, h2, hk => by
    show bindL kindOf ((p, w) :: P.zip vs) m x = _
    unfold bindL
    exact bindL_get (i := i) (List.nodup_cons.mp nd).2 (by simpa using h1) (by simpa using h2) hk
theorem bindC_get {kindOf : Str -> Option NameKind} {x : Str} {v : Value} : ∀ {P : List Str} {vs : List Value} {i : Nat} {m : Str -> Option Value}, P.Nodup -> P[i]? = some x -> vs[i]? = some v -> kindOf x ≠ some .local ->
    bindC kindOf (P.zip vs) m x = some v
  | [], _, _, _, _, h, _, _ => by simp at h
  | _ :: _, [], _, _, _, _, h, _ => by simp at h
  | p :: P, w :: vs, 0, m, nd, h1, h2, hk => by
    simp at h1 h2; subst h1; subst h2
    show bindC kindOf ((p, w) :: P.zip vs) m p = _
    unfold bindC
    rw [bindC_out fun v hv => (List.nodup_cons.mp nd).1 (List.of_mem_zip hv).1, if_neg hk]
    simp
  | p :: P, w :: vs, i + 1, m, nd, h1, h2, hk => by
    show bindC kindOf ((p, w) :: P.zip vs) m x = _
    unfold bindC
    exact bindC_get (i := i) (List.nodup_cons.mp nd).2 (by simpa using h1) (by simpa using h2) hk
def start (N : List Str) (vs : List V) : St := vs.map some ++ List.replicate (N.length - vs.length) none
def cxOf (CX : CXT) (P : Program) (w : World) (K : PySem.W.Frag) (mg : Str -> Option Value) (base : Heap) (N : List Str) (qual : Str) (scope : Scope) (f : Addr) (cd : Value) (A : Around) (outer : List Env) (s : Shared) (H : Hp) (E : XK) : Cx where
  prog := P
  w := w
  K := K
  mg := mg
  base := base
  A := A.deeper (envOfC qual scope s.heap.objs.size f cd)
  N := N
  s₀ := s
  H₀ := H
  env := envOfC qual scope s.heap.objs.size f cd
  outer := outer
  stack := envOfC qual scope s.heap.objs.size f cd :: outer
  ex := []
  calm := true
  fn := fun _ => true
  pn := []
  xe := fun e s' => wpAny (model P w) (A.deeper (envOfC qual scope s.heap.objs.size f cd)) (leaving (envOfC qual scope s.heap.objs.size f cd) e) (fun _ s'' => CX outer H s E e s'') (fun e' s'' => CX outer H s E e' s'') s'
theorem cell_has {sc : Scope} {n : Nat} {x : Str} (h : sc.names.lookup x = some .cell) : ∃ c, (cellsFrom n sc.names []).lookup x = some c := by
  have q := PySem.W.cellsFrom_some sc.names n [] (.inl h)
  exact Option.isSome_iff_exists.mp q
theorem inv_start {CX : CXT} {P : Program} {w : World} {K : PySem.W.Frag} {mg : Str -> Option Value} {base : Heap} {N ps : List Str} {qual : Str} {scope : Scope} {f : Addr} {cd : Value} {A : Around} {outer : List Env} {s s1 : Shared} {H : Hp} {E : XK} {us : List Value} {vs : List V}
    (S : FnScope N ps scope) (hd : A.handled = none) (e0 : Env0 P w K mg base A outer s H) (hl : vs.length = ps.length) (r : Vals vs us)
    (x : InCallC s s.heap.objs.size (bindL (envOfC qual scope s.heap.objs.size f cd).kindOf (ps.zip us) fun _ => none) (cellsFrom (s.heap.objs.size + 1) scope.names []) (bindC (envOfC qual scope s.heap.objs.size f cd).kindOf (ps.zip us) fun _ => none) s1) :
    Inv (cxOf CX P w K mg base N qual scope f cd A outer s H E) [] (start N vs) H s1 := by
  have hpl : ps.length <= N.length := by have := congrArg List.length S.pre; rw [List.length_take] at this; omega
  obtain ⟨h1, tk, rfl, hk⟩ := x.done
  have noA : ∀ b : Addr, b ∉ (cxOf CX P w K mg base N qual scope f cd A outer s H E).ex := fun b z => absurd (show b ∈ ([] : List Addr) from z) (by simp)
  refine ⟨⟨e0.mod, S.kind, rfl, rfl, Nat.le_refl _, fun y z c h1 h2 => ?_, fun y hy => ?_, fun y c _ h => ?_, fun _ => hd, Around.frames_deeper e0.frames, .inr ⟨rfl, rfl⟩, fun b z => absurd z (noA b), e0.bs, e0.bsz, fun b _ _ => noA b, fun b z => absurd z (noA b), e0.funs, e0.frf⟩,
    rfl, e0.bare, Un.kept hk, ⟨_, x.toInCall.ns, fun i y v h1 h2 h3 => ?_⟩, fun y c h => ⟨_, x.cell y c h⟩, e0.hok.fresh (Nat.le_refl _), fun y c h => ?_, fun p hp => absurd (show p ∈ ([] : List (Addr × Obj)) from hp) (by simp), e0.hok.kept hk, ?_⟩
  · exact name_of_addr x.apart (PySem.mem_of_lookup h1) (PySem.mem_of_lookup h2)
  · have hy : scope.names.lookup y = some .cell \/ scope.names.lookup y = some .free := hy
    rcases hy with hy | hy
    · exact cell_has hy
    · exact absurd rfl (S.nofree _ (PySem.mem_of_lookup hy))
  · exact Nat.le_of_lt (x.above y c (PySem.mem_of_lookup h))
  · have hi : i < vs.length := by
      unfold start at h2
      by_cases hi : i < vs.length
      · exact hi
      · rw [List.getElem?_append_right (by simpa using hi)] at h2
        rw [List.getElem?_replicate] at h2
        split at h2 <;> cases h2
    have ha : vs[i]? = some v := by
      unfold start at h2
      rw [List.getElem?_append_left (by simpa using hi), List.getElem?_map] at h2
      cases e : vs[i]? with
      | none => rw [e] at h2; cases h2
      | some a => rw [e] at h2; cases h2; rfl
    obtain ⟨u, hu, rv⟩ := r.get ha
    have hp : ps[i]? = some y := by
      rw [<- S.pre, List.getElem?_take_of_lt (by omega)]; exact h1
    have ndP : ps.Nodup := by rw [<- S.pre]; exact S.nd.sublist (List.take_sublist _ _)
    refine ⟨u, rv, ?_⟩
    rcases S.par y (List.mem_of_getElem? hp) with k | k
    · exact .inl ⟨k, bindL_get ndP hp hu k⟩
    · obtain ⟨c, e⟩ := cell_has (n := s.heap.objs.size + 1) k
      refine .inr ⟨.inl k, c, e, ?_⟩
      have q := x.cell y c e
      rw [bindC_get ndP hp hu (by show scope.names.lookup y ≠ _; rw [k]; decide)] at q
      exact q
  · exact e0.hok.fresh (Nat.le_of_lt (x.above y c (PySem.mem_of_lookup h)))
  · unfold start
    show _ = N.length
    rw [List.length_append, List.length_map, List.length_replicate]
    omega
theorem fn_of {CX : CXT} {P : Program} {w : World} {K : PySem.W.Frag} {mg : Str -> Option Value} {base : Heap} {k : Nat} {f : Addr} {name qual : Str} {params : Arguments} {body : List Stmt} {scope : Scope} {dV kV doc pm cdv ct oc : Value} {an od : Option Addr}
    {osl : Array (Option Value)} {N ps : List Str} {sp : Sp} (lk : K.lookup f = some ⟨oc, od, .func (PySem.W.fnOf name qual params body scope dV kV doc pm an cdv ct), osl⟩) (hcd : PySem.W.codeIn K cdv qual = true) (S : FnScope N ps scope)
    (len : ∀ vs H Q E, sp vs H Q E -> vs.length = ps.length)
    (hbody : ∀ (A : Around) (outer : List Env) (s : Shared) (H : Hp) (vs : List V) (Q : VK) (E : XK), Room k (A.deeper (envOfC qual scope s.heap.objs.size f cdv)) -> sp vs H Q E ->
      ∃ t, PSs (cxOf CX P w K mg base N qual scope f cdv A outer s H E) body t /\ t { nx := fun _ H' => Q .non H', rt := Q } (start N vs) H) :
    FnOk P w K mg base CX (k + 1) f (PySem.W.fnOf name qual params body scope dV kV doc pm an cdv ct) ps sp := by
  refine ⟨len, fun A outer s H args us vs Q E hr e0 hb r hsp => ?_⟩
  have hl := len _ _ _ _ hsp
  have KX : K.In s.heap := e0.mod.kin.keeps fun b o e => (e0.bs b o e).1
  have lim : s.heap.NoLimit := e0.mod.nolimit.keeps fun b o e => (e0.bs b o e).1
  have hkind : ∀ y ∈ ps.zip us, scope.names.lookup y.1 = some .local \/ (scope.names.lookup y.1 = some .cell /\ ((cellsFrom (s.heap.objs.size + 1) scope.names []).lookup y.1).isSome = true) := fun ⟨n, v⟩ hy => by
    rcases S.par n (List.of_mem_zip hy).1 with q | q
    · exact .inl q
    · exact .inr ⟨q, PySem.W.cellsFrom_some _ _ _ (.inl q)⟩
  refine codeAny_call_function hr.depth (KX _ _ lk) rfl S.co S.gen rfl (PySem.W.codeRec_of KX hcd) (hb _ _ _ _ ?_)
  refine wpAny_newFunctionEnv_cells S.kind hkind fun env he s1 x => ?_
  subst he
  refine ⟨lim.keeps x.toInCall.keep, codeAny_func ?_⟩
  obtain ⟨t, ht, hq⟩ := hbody A outer s H vs Q E (hr.deeper _) hsp
  have I : Inv (cxOf CX P w K mg base N qual scope f cdv A outer s H E) [] (start N vs) H s1 := inv_start S hr.hd e0 hl r x
  refine wpAny_mono (ht [] s1 (start N vs) H _ I hq) (fun fl s' hs => ?_) fun e s' hs => hs
  have fin : ∀ {σ' : St} {H' : Hp} {v : V} {u : Value}, Inv (cxOf CX P w K mg base N qual scope f cdv A outer s H E) [] σ' H' s' -> RelV v u -> Q v H' -> CE outer P w H s Q u s' :=
    fun {σ' H' v u} J rv q => ⟨v, H', J.os, J.bare, J.base, J.hok, rv, q⟩
  cases fl with
  | ret u =>
    obtain ⟨v, σ', H', J, rv, q⟩ := hs
    exact fin J rv q
  | next =>
    obtain ⟨σ', H', J, q⟩ := hs
    exact fin (v := V.non) (u := Value.none) J rfl q
  | brk =>
    obtain ⟨_, _, _, q⟩ := hs
    exact False.elim q
  | cont =>
    obtain ⟨_, _, _, q⟩ := hs
    exact False.elim q
end L2
namespace L2
open PySem PySem.Spec PyProof.Rows
section
variable {X : Cx} {x : Str} {p pos : Pos} {e : Expr} {es : List Expr} {t : TA} {id T : String} {r : List V -> Hp -> VK -> Prop}
def tCB (r : List V -> Hp -> VK -> Prop) (t : TA) : TE := fun σ H Q => t σ H fun vs H1 => r vs H1 Q
theorem pe_callB (hc : CallR X (.builtin id) r) (hg : Gl X x) (hm : X.mg x = none) (hv : bootBuiltins x = some (.builtin id)) (ha : PA X (e :: es) t) (hn : x ≠ "__name__" := by decide) (hdb : (x == ("__debug__" : Str)) = false := by decide)
    (he : starEach (e :: es) X.env = (false, eval e X.env) :: starEach es X.env := by rfl) (hpl : (backTo pos (starEach es X.env)).any (·.1) = false := by rfl) : PE X (.Call (.Name x p) (e :: es) [] pos) (tCB r t) := by
  intro pins s σ H Q I h
  refine wpAny_Call_Name_kw (ld_blt I hg hm hv ?_ hn hdb)
  exact PyProof.Rows.callWith_builtin1 (thn (ha pos pins s σ H _ I h) fun us s1 ⟨vs, H1, I1, r1, q1⟩ => hc pins s1 σ H1 vs us Q I1 r1 q1) he hpl
theorem pe_callTy (hc : CallR X (.type T) r) (hg : Gl X x) (hm : X.mg x = none) (hv : bootBuiltins x = some (.type T)) (ha : PA X (e :: es) t) (hn : x ≠ "__name__" := by decide) (hdb : (x == ("__debug__" : Str)) = false := by decide)
    (he : starEach (e :: es) X.env = (false, eval e X.env) :: starEach es X.env := by rfl) (hpl : (backTo pos (starEach es X.env)).any (·.1) = false := by rfl) : PE X (.Call (.Name x p) (e :: es) [] pos) (tCB r t) := by
  intro pins s σ H Q I h
  refine wpAny_Call_Name_kw (ld_blt I hg hm hv ?_ hn hdb)
  exact PyProof.Rows.callWith_type1 (thn (ha pos pins s σ H _ I h) fun us s1 ⟨vs, H1, I1, r1, q1⟩ => hc pins s1 σ H1 vs us Q I1 r1 q1) he hpl
end
end L2
namespace HT
open PySem PyProof.Rows
section
open PySem.SeqAt
open PySem.AutoSeq1 (wpAny_loadPart')
open PySem.MeetsSeq PySem.MeetsSeq2 PySem.MeetsSeq3
end
section
variable {prog : Program} {w : World} {A : Around} {E : Value -> Shared -> Prop} {s : Shared}
def sIx (n d : Nat) : Option Int -> Nat
  | none => d
  | some v => if v < 0 then (v + (n : Int)).toNat else min v.toNat n
theorem sIx_none (n d : Nat) : sIx n d none = d := rfl
theorem sIx_nat (n d k : Nat) : sIx n d (some (k : Int)) = min k n := by
  show (if (k : Int) < 0 then ((k : Int) + (n : Int)).toNat else min (k : Int).toNat n) = min k n
  rw [if_neg (by omega), Int.toNat_natCast]
end
end HT
namespace L2
open PySem PySem.Spec PyProof.Rows
abbrev TO := St -> Hp -> (Option Int -> Hp -> Prop) -> Prop
def PO (X : Cx) (e : Option Expr) (t : TO) : Prop :=
  ∀ (pins : List (Addr × Obj)) (s : Shared) (σ : St) (H : Hp) (Q : Option Int -> Hp -> Prop), Inv X pins σ H s -> t σ H Q ->
    wpAny (model X.prog X.w) X.A (evalPart e X.env) (fun u s' => ∃ o H', Inv X pins σ H' s' /\ IsPart u o /\ Q o H') X.xe s
def tNoPart : TO := fun _ H Q => Q none H
def tPart (t : TE) : TO := fun σ H Q => t σ H fun x H1 => ∃ i, x = .int i /\ Q (some i) H1
theorem intsAre_of {ns : List Int} : ∀ {us : List Value}, Vals (ns.map V.int) us -> IntsAre us ns := by
  induction ns with
  | nil => intro us r; rw [List.map_nil] at r; cases r; exact .nil
  | cons n ns ih =>
    intro us r
    rw [List.map_cons] at r
    cases r with
    | cons r1 r2 =>
      obtain ⟨t, e⟩ := r1
      subst e
      exact .cons n t (ih r2)
section
variable {X : Cx} {e : Expr} {te : TE} {lo hi : Option Expr} {tl th : TO} {pos p2 : Pos}
theorem po_none : PO X none tNoPart := by
  intro pins s σ H Q I h
  rw [evalPart_none]
  exact wpAny_pure ⟨none, H, I, .none, h⟩
theorem po_some (h : PE X e te) : PO X (some e) (tPart te) := by
  intro pins s σ H Q I hw
  rw [evalPart_some]
  refine thn (h pins s σ H _ I hw) fun u s1 ⟨x, H1, I1, r1, q1⟩ => ?_
  obtain ⟨i, rfl, q⟩ := q1
  obtain ⟨t, rfl⟩ := r1
  exact ⟨some i, H1, I1, .int i t, q⟩
def SlR (X : Cx) (r : V -> Option Int -> Option Int -> Hp -> VK -> Prop) : Prop :=
  ∀ (pins : List (Addr × Obj)) (s : Shared) (σ : St) (H : Hp) (x : V) (v vl vu : Value) (lo hi : Option Int) (sl : Addr) (Q : VK), Inv X pins σ H s -> RelV x v -> s.heap.IsSliceOf sl vl vu .none -> IsPart vl lo -> IsPart vu hi -> r x lo hi H Q ->
    ∃ T id, typeLookup (.type T) "__getitem__" = pure (some (.builtin id)) /\ s.TypeIs v T /\ wpAny (model X.prog X.w) X.A (getItem v (.ref sl)) (EP X pins σ Q) X.xe s
def tSl (r : V -> Option Int -> Option Int -> Hp -> VK -> Prop) (te : TE) (tl th : TO) : TE := fun σ H Q => te σ H fun x H1 => tl σ H1 fun l H2 => th σ H2 fun u H3 => r x l u H3 Q
theorem pe_slice {r : V -> Option Int -> Option Int -> Hp -> VK -> Prop} (hr : SlR X r) (he : PE X e te) (hl : PO X lo tl) (hu : PO X hi th) : PE X (.Subscript e (.Slice lo hi none p2) pos) (tSl r te tl th) := by
  intro pins s σ H Q I h
  refine Subscript_ (thn (he pins s σ H _ I h) fun v s1 ⟨x, H1, I1, r1, q1⟩ => ?_)
  refine wpAny_Slice (thn (hl pins s1 σ H1 _ I1 q1) fun vl s2 ⟨l, H2, I2, pl, q2⟩ => thn (hu pins s2 σ H2 _ I2 q2) fun vu s3 ⟨u, H3, I3, pu, q3⟩ => ?_)
  rw [evalPart_none]
  refine wpAny_pure ?_
  have I4 : Inv X pins σ H3 { s3 with heap := s3.heap.push { cls := .type "slice", data := .fields #[vl, vu, .none] } } := I3.kept (t' := s3.toks) fun b ob q => Heap.get?_push_of_some _ q
  obtain ⟨T, id, hT, ht, hg⟩ := hr pins { s3 with heap := s3.heap.push { cls := .type "slice", data := .fields #[vl, vu, .none] } } σ H3 x v vl vu l u s3.heap.objs.size Q I4 r1 (Heap.IsSliceOf.new ..) pl pu q3
  show wpAny (model X.prog X.w) X.A (subscriptTail e (.Slice lo hi none p2) v (.ref s3.heap.objs.size)) (EP X pins σ Q) X.xe { s3 with heap := s3.heap.push { cls := .type "slice", data := .fields #[vl, vu, .none] } }
  exact tail_any (ops := [.ref s3.heap.objs.size, v]) ht hT hg (by with_unfolding_all rfl)
def cutV (xs : List V) (lo hi : Option Int) : List V := (xs.drop (HT.sIx xs.length 0 lo)).take (HT.sIx xs.length xs.length hi - HT.sIx xs.length 0 lo)
theorem cutV_length (xs : List V) (lo hi : Option Int) : (cutV xs lo hi).length <= xs.length := by
  unfold cutV
  rw [List.length_take, List.length_drop]
  omega
theorem Vals.nil_iff {xs : List V} {us : List Value} (r : Vals xs us) : us = [] ↔ xs = [] := by
  cases r with
  | nil => simp
  | cons _ _ => simp
end
end L2
namespace L2
open PySem PySem.Spec PyProof.Rows
def ixN (n : Nat) (i : Int) : Option Nat := if 0 <= i then (if i < n then some i.toNat else none) else if -(n : Int) <= i then some (i + n).toNat else none
def atI {α : Type} (xs : List α) (i : Int) : Option α := (ixN xs.length i).bind fun j => xs[j]?
theorem ixN_seq {n : Nat} {i : Int} {j : Nat} (h : ixN n i = some j) : seqIndex? i n = some j /\ j < n /\ -(n : Int) <= i /\ i < n := by
  unfold ixN at h
  by_cases h0 : 0 <= i
  · rw [if_pos h0] at h
    by_cases h1 : i < n
    · rw [if_pos h1] at h
      have e : i.toNat = j := Option.some.inj h
      exact ⟨by rw [seqIndex_of h0 h1, e], by omega, by omega, h1⟩
    · rw [if_neg h1] at h; cases h
  · rw [if_neg h0] at h
    by_cases h1 : -(n : Int) <= i
    · rw [if_pos h1] at h
      have e : (i + n).toNat = j := Option.some.inj h
      exact ⟨by rw [seqIndex_neg (by omega) h1, e], by omega, h1, by omega⟩
    · rw [if_neg h1] at h; cases h
theorem atI_get {α : Type} {xs : List α} {i : Int} {v : α} (h : atI xs i = some v) : ∃ j, seqIndex? i xs.length = some j /\ xs[j]? = some v /\ j < xs.length /\ -(xs.length : Int) <= i /\ i < xs.length := by
  unfold atI at h
  cases e : ixN xs.length i with
  | none => rw [e] at h; cases h
  | some j =>
    rw [e] at h
    obtain ⟨h1, h2, h3, h4⟩ := ixN_seq e
    exact ⟨j, h1, h, h2, h3, h4⟩
theorem atI_nat {α : Type} {xs : List α} {j : Nat} {v : α} (h : xs[j]? = some v) : atI xs (j : Int) = some v := by
  have hj : j < xs.length := (List.getElem?_eq_some_iff.mp h).1
  have e : ixN xs.length (j : Int) = some j := by
    unfold ixN
    rw [if_pos (by omega), if_pos (by omega)]; simp
  unfold atI; rw [e]; exact h
def PlainIx (b : Expr) : Prop := ∀ o i, subscripted b false o i = operate [o, i] (getItem o i)
def IxR (X : Cx) (r : R2) : Prop :=
  ∀ (value slice : Expr) (pins : List (Addr × Obj)) (s : Shared) (σ : St) (H : Hp) (x y : V) (v u : Value) (Q : VK), Inv X pins σ H s -> RelV x v -> RelV y u -> r x y H Q ->
    subscripted slice false v u = operate [v, u] (getItem v u) -> wpAny (model X.prog X.w) X.A (subscriptTail value slice v u) (EP X pins σ Q) X.xe s
def MtR (X : Cx) (id : String) (r : V -> List V -> Hp -> VK -> Prop) : Prop :=
  ∀ (pins : List (Addr × Obj)) (s : Shared) (σ : St) (H : Hp) (x : V) (xs : List V) (v : Value) (us : List Value) (Q : VK), Inv X pins σ H s -> RelV x v -> Vals xs us -> r x xs H Q ->
    wpAny (model X.prog X.w) X.A (call (.builtin id) (v :: us)) (EP X pins σ Q) X.xe s
section
variable {X : Cx} {a b : Expr} {ta tb : TE} {pos : Pos}
theorem pe_ix {r : R2} (hr : IxR X r) (ha : PE X a ta) (hb : PE X b tb) (hs : PlainIx b) : PE X (.Subscript a b pos) (tOp r ta tb) := by
  intro pins s σ H Q I h
  exact Subscript_ (binT ha hb I h fun v u s2 x y H2 I2 rx ry q => hr a b pins s2 σ H2 x y v u Q I2 rx ry q (hs _ _))
def rIxL (K : PySem.W.Frag) : R2 := fun x y H Q => ∃ p xs i v, x = .ref p /\ y = .int i /\ SqL K H p xs /\ atI xs i = some v /\ Q v H
def rIxT (K : PySem.W.Frag) : R2 := fun x y H Q => ∃ p xs i v, x = .ref p /\ y = .int i /\ SqT K H p xs /\ atI xs i = some v /\ Q v H
def rIxS : R2 := fun x y H Q => ∃ z i c, x = .str z /\ y = .int i /\ z.length <= sizeLine /\ atI z.cps.toList i = some c /\ Q (.str ⟨#[c]⟩) H
theorem ix_list : IxR X (rIxL X.K) := by
  intro value slice pins s σ H x y v u Q I rx ry h hs
  obtain ⟨p, xs, i, z, rfl, rfl, hq, he, q⟩ := h
  cases rx
  obtain ⟨t, rfl⟩ := ry
  obtain ⟨its, r, pl, hz⟩ := I.list hq
  obtain ⟨j, h1, h2, h3, h4, h5⟩ := atI_get he
  obtain ⟨w, ew, rw'⟩ := r.get h2
  have hl := r.length
  have hn := line63
  have fin : EP X pins σ Q w s := ⟨z, H, I, rw', q⟩
  by_cases h0 : 0 <= i
  · have hj : i.toNat = j := by
      rw [seqIndex_of h0 h5] at h1
      exact Option.some.inj h1
    exact item_listR pl.isList h0 (by omega) (by rw [hj]; simpa using ew) fin hs
  · have hj : (i + (its.toArray.size : Int)).toNat = j := by
      rw [seqIndex_neg (by omega) h4] at h1
      rw [List.size_toArray, <- hl]
      exact Option.some.inj h1
    exact subscriptTail_builtinR (x := w) pl.isList.typeIs slot_list_getitem.lookup
      (wpAny_getItem_list_neg (Q := fun r s' => r = w /\ EP X pins σ Q r s') pl.isList (by omega) (by rw [List.size_toArray] <;> omega) (by omega) (by rw [hj]; simpa using ew) ⟨rfl, fin⟩) hs
theorem ix_tup : IxR X (rIxT X.K) := by
  intro value slice pins s σ H x y v u Q I rx ry h hs
  obtain ⟨p, xs, i, z, rfl, rfl, hq, he, q⟩ := h
  cases rx
  obtain ⟨t, rfl⟩ := ry
  obtain ⟨its, r, pl, hz⟩ := I.tuple hq
  obtain ⟨j, h1, h2, h3, h4, h5⟩ := atI_get he
  obtain ⟨w, ew, rw'⟩ := r.get h2
  have hl := r.length
  have hn := line63
  have fin : EP X pins σ Q w s := ⟨z, H, I, rw', q⟩
  exact subscriptTail_builtinR (x := w) pl.typeIs slot_tuple_getitem.lookup
    (getItem_tuple (j := j) (Q := fun r s' => r = w /\ EP X pins σ Q r s') pl (by omega) (by omega) (by rw [List.size_toArray, <- hl]; exact h1) (by simpa using ew) ⟨rfl, fin⟩) hs
theorem ix_str : IxR X rIxS := by
  intro value slice pins s σ H x y v u Q I rx ry h hs
  obtain ⟨z, i, c, rfl, rfl, hz, he, q⟩ := h
  obtain ⟨t, rfl⟩ := rx
  obtain ⟨t', rfl⟩ := ry
  obtain ⟨j, h1, h2, h3, h4, h5⟩ := atI_get he
  have hl : z.cps.toList.length = z.length := by simp [Str.length]
  rw [hl] at h1 h4 h5
  have hn := line63
  exact tail_any (typeIs_str s z t) slot_str_getitem.lookup (getItem_str (c := c) (by
    have e1 : decide (i < -(2 ^ 63 : Int)) = false := decide_eq_false (by omega)
    have e2 : decide (i >= 2 ^ 63) = false := decide_eq_false (by omega)
    rw [e1, e2, Bool.or_false]) (by rw [h1]; simpa using h2) ⟨.str ⟨#[c]⟩, H, I.tok _, ⟨_, rfl⟩, q⟩) hs
theorem slice_bounds (lo hi : Option Int) (n : Nat) : (sliceBounds lo hi none n).1 = ((HT.sIx n 0 lo : Nat) : Int) /\ (sliceBounds lo hi none n).2.1 = ((HT.sIx n n hi : Nat) : Int) /\ (sliceBounds lo hi none n).2.2 = 1 := by
  refine ⟨?_, ?_, rfl⟩
  · cases lo with
    | none => simp [sliceBounds, HT.sIx]
    | some i =>
      simp only [sliceBounds, HT.sIx, Option.getD_none, show (1 : Int) > 0 by decide, if_true]
      by_cases h : i < 0
      · simp only [h, if_true] <;> omega
      · simp only [h, if_false] <;> omega
  · cases hi with
    | none => simp [sliceBounds, HT.sIx]
    | some i =>
      simp only [sliceBounds, HT.sIx, Option.getD_none, show (1 : Int) > 0 by decide, if_true]
      by_cases h : i < 0
      · simp only [h, if_true] <;> omega
      · simp only [h, if_false] <;> omega
theorem slicePick_cut (its : List Value) (lo hi : Option Int) : slicePick its.toArray lo hi none = ((its.drop (HT.sIx its.length 0 lo)).take (HT.sIx its.length its.length hi - HT.sIx its.length 0 lo)).toArray := by
  obtain ⟨h1, h2, h3⟩ := slice_bounds lo hi its.toArray.size
  unfold slicePick
  rw [h1, h2, h3]
  simp only [sliceRange_one, pick_run, List.size_toArray] <;> rfl
def rSlL (K : PySem.W.Frag) : V -> Option Int -> Option Int -> Hp -> VK -> Prop := fun x lo hi H Q => ∃ a xs, x = .ref a /\ SqL K H a xs /\ ∀ p, H p = none -> Q (.ref p) (upd H p (.lst (cutV xs lo hi)))
theorem sl_list : SlR X (rSlL X.K) := by
  intro pins s σ H x v vl vu lo hi sl Q I rx hs pl pu h
  obtain ⟨a, xs, rfl, hx, q⟩ := h
  cases rx
  obtain ⟨its, r, ht, hz⟩ := I.list hx
  have hlen := r.length
  refine ⟨"list", _, slot_list_getitem.lookup, ht.isList.typeIs, ?_⟩
  refine wpAny_getItem_list_slice ht.isList hs pl pu .none (by simp) ?_ (by rw [List.size_toArray] <;> omega)
  rw [slicePick_cut, <- hlen]
  refine ⟨.ref s.heap.objs.size, _, I.laid (t' := s.toks) (o := .lst (cutV xs lo hi)) (fun b ob q => Heap.get?_push_of_some _ q) (Nat.le_refl _) ?_, rfl, q _ (I.hok.fresh (Nat.le_refl _))⟩
  exact ⟨Nat.le_trans (cutV_length xs lo hi) hz, _, 0, (r.drop (HT.sIx xs.length 0 lo)).take (HT.sIx xs.length xs.length hi - HT.sIx xs.length 0 lo), Heap.get?_push_size _ rfl⟩
def flatV : V -> Bool
  | .non => true
  | .bl _ => true
  | .int _ => true
  | .str _ => true
  | _ => false
def eqV : V -> V -> Bool
  | .non, .non => true
  | .bl a, .bl b => a == b
  | .bl a, .int b => (if a then 1 else 0) == b
  | .int a, .bl b => a == (if b then 1 else 0)
  | .int a, .int b => a == b
  | .str a, .str b => a == b
  | _, _ => false
theorem eqAt_V {A : Around} {s : Shared} {y x : V} {u v : Value} (ry : RelV y u) (rx : RelV x v) (fy : flatV y = true) (fx : flatV x = true) : SeqAt.EqAt A s u v (eqV y x) := by
  cases y with
  | non =>
    cases ry
    cases x with
    | non => cases rx; exact SeqAt.EqAt.same _
    | bl b => cases rx; exact SeqAt.EqAt.none_bool b
    | int b => obtain ⟨t, rfl⟩ := rx; exact SeqAt.EqAt.none_int b t
    | str b => obtain ⟨t, rfl⟩ := rx; exact SeqAt.EqAt.none_str b t
    | _ => exact absurd (show false = true from fx) Bool.false_ne_true
  | bl a =>
    cases ry
    cases x with
    | non => cases rx; exact SeqAt.EqAt.bool_none a
    | bl b => cases rx; exact SeqAt.EqAt.bool_bool a b
    | int b => obtain ⟨t, rfl⟩ := rx; exact SeqAt.EqAt.bool_int a b t
    | str b => obtain ⟨t, rfl⟩ := rx; exact SeqAt.EqAt.bool_str a b t
    | _ => exact absurd (show false = true from fx) Bool.false_ne_true
  | int a =>
    obtain ⟨t', rfl⟩ := ry
    cases x with
    | non => cases rx; exact SeqAt.EqAt.int_none a t'
    | bl b => cases rx; exact SeqAt.EqAt.int_bool a t' b
    | int b => obtain ⟨t, rfl⟩ := rx; exact SeqAt.EqAt.int_int a t' b t
    | str b => obtain ⟨t, rfl⟩ := rx; exact SeqAt.EqAt.int_str a t' b t
    | _ => exact absurd (show false = true from fx) Bool.false_ne_true
  | str a =>
    obtain ⟨t', rfl⟩ := ry
    cases x with
    | non => cases rx; exact SeqAt.EqAt.str_none a t'
    | bl b => cases rx; exact SeqAt.EqAt.str_bool a t' b
    | int b => obtain ⟨t, rfl⟩ := rx; exact SeqAt.EqAt.str_int a t' b t
    | str b => obtain ⟨t, rfl⟩ := rx; exact SeqAt.EqAt.str_str a t' b t
    | _ => exact absurd (show false = true from fx) Bool.false_ne_true
  | _ => exact absurd (show false = true from fy) Bool.false_ne_true
theorem call_len_seq : CallR X (.builtin "len") (fun xs H Q => ∃ p ys, xs = [.ref p] /\ (SqL X.K H p ys \/ SqT X.K H p ys) /\ Q (.int ys.length) H) := by
  intro pins s σ H xs us Q I r h
  obtain ⟨p, ys, rfl, hq, q⟩ := h
  obtain ⟨u, rfl, rx⟩ := vals1 r
  cases rx
  have hn := line63
  rcases hq with hq | hq
  · obtain ⟨its, r', pl, hz⟩ := I.list hq
    have hlen := r'.length
    exact Calls.call_len_list pl.isList (by simp only [List.size_toArray] <;> omega) ⟨.int ys.length, H, I.tok _, ⟨s.toks + 1, by rw [List.size_toArray, hlen]⟩, q⟩
  · obtain ⟨its, r', pl, hz⟩ := I.tuple hq
    have hlen := r'.length
    exact len_tuple pl (by simp only [List.size_toArray] <;> omega) ⟨.int ys.length, H, I.tok _, ⟨s.toks + 1, by rw [List.size_toArray, hlen]⟩, q⟩
theorem call_list_of : CallR X (.type "list") (fun xs H Q => ∃ p ys, xs = [.ref p] /\ (SqL X.K H p ys \/ SqT X.K H p ys) /\ ∀ l, H l = none -> Q (.ref l) (upd H l (.lst ys))) := by
  intro pins s σ H xs us Q I r h
  obtain ⟨p, ys, rfl, hq, q⟩ := h
  obtain ⟨u, rfl, rx⟩ := vals1 r
  cases rx
  have fin : ∀ (its : List Value), Vals ys its -> ys.length <= sizeLine -> ∀ (h' : Heap) (c' : Nat), (∀ b o', s.heap.get? b = some o' -> h'.get? b = some o') ->
      h'.get? s.heap.objs.size = some { cls := .type "list", dict := none, data := .seq its.toArray c', slots := #[] } -> EP X pins σ Q (.ref s.heap.objs.size) { s with heap := h' } := fun its r' hz h' c' kp e =>
    ⟨.ref s.heap.objs.size, _, I.laid (t' := s.toks) kp (Nat.le_refl _) (show ObjOk X.prog X.w _ h' _ (.lst ys) from ⟨hz, its, c', r', e⟩), rfl, q _ (I.hok.fresh (Nat.le_refl _))⟩
  rcases hq with hq | hq
  · obtain ⟨its, r', pl, hz⟩ := I.list hq
    have hlen := r'.length
    obtain ⟨o, ho, hc, n, hd⟩ := pl.isList
    exact call_list_seq p (.inl rfl) ho hc hd (fun h' c' kp e => fin its r' hz h' c' kp e) (by simp only [List.size_toArray] <;> omega)
  · obtain ⟨its, r', pl, hz⟩ := I.tuple hq
    have hlen := r'.length
    obtain ⟨o, ho, hc, n, hd⟩ := pl
    exact call_list_seq p (.inr rfl) ho hc hd (fun h' c' kp e => fin its r' hz h' c' kp e) (by simp only [List.size_toArray] <;> omega)
def tyV (K : PySem.W.Frag) (T : String) (x : V) (H : Hp) : Prop := match x with
  | .str _ => T = "str"
  | .int _ => T = "int"
  | .ref p => (T = "list" /\ ∃ xs, SqL K H p xs) \/ (T = "tuple" /\ ∃ o, K.lookup p = some o /\ o.cls = .type "tuple" /\ o.dict = none) \/
      (T = "dict" /\ ((∃ kvs, H p = some (.dK kvs)) \/ ∃ kvs, H p = some (.dT kvs))) \/ (T = "set" /\ ∃ S n, H p = some (.set S n))
  | _ => False
theorem tyV_is {pins : List (Addr × Obj)} {σ : St} {H : Hp} {s : Shared} {T : String} {x : V} {v : Value} (I : Inv X pins σ H s) (r : RelV x v) (ty : tyV X.K T x H) :
    s.TypeIs v T /\ ∀ a, v = .ref a -> ∃ ob, s.heap.get? a = some ob /\ ob.dict = none := by
  cases x with
  | str z =>
    obtain ⟨t, rfl⟩ := r
    cases (show T = "str" from ty)
    exact ⟨typeIs_str s z t, fun _ e => nomatch e⟩
  | int i =>
    obtain ⟨t, rfl⟩ := r
    cases (show T = "int" from ty)
    exact ⟨typeIs_int s i t, fun _ e => nomatch e⟩
  | ref p =>
    cases r
    rcases ty with ⟨rfl, xs, hq⟩ | ⟨rfl, o, hk, hc, hd⟩ | ⟨rfl, hk⟩ | ⟨rfl, S, n, hk⟩
    · obtain ⟨its, _, pl, _⟩ := I.list hq
      refine ⟨pl.isList.typeIs, fun a e => ?_⟩
      cases e
      obtain ⟨o, n, e, c, hd, _⟩ := pl
      exact ⟨o, e, hd⟩
    · refine ⟨⟨o, I.kIn p o hk, hc⟩, fun a e => ?_⟩
      cases e
      exact ⟨o, I.kIn _ o hk, hd⟩
    · have z : ∃ o, s.heap.get? p = some o /\ o.ExactDict := by
        rcases hk with ⟨kvs, hk⟩ | ⟨kvs, hk⟩
        · obtain ⟨_, _, _, _, o, _, _, e, ex, _⟩ := I.hok p _ hk
          exact ⟨o, e, ex⟩
        · obtain ⟨_, _, _, _, o, _, _, e, ex, _⟩ := I.hok p _ hk
          exact ⟨o, e, ex⟩
      obtain ⟨o, e, ex⟩ := z
      refine ⟨⟨o, e, ex.1⟩, fun a e2 => ?_⟩
      cases e2
      exact ⟨o, e, ex.2.1⟩
    · obtain ⟨o, _, _, _, e, ex, _⟩ := I.hok p _ hk
      refine ⟨⟨o, e, ex.1⟩, fun a e2 => ?_⟩
      cases e2
      exact ⟨o, e, ex.2.1⟩
  | _ => exact False.elim ty
def tBM0 (K : PySem.W.Frag) (T : String) (r : V -> List V -> Hp -> VK -> Prop) (to : TE) : TE := fun σ H Q => to σ H fun x H1 => tyV K T x H1 /\ r x [] H1 Q
def tBM (K : PySem.W.Frag) (T : String) (r : V -> List V -> Hp -> VK -> Prop) (to : TE) (t : TA) : TE := fun σ H Q => to σ H fun x H1 => tyV K T x H1 /\ t σ H1 fun xs H2 => r x xs H2 Q
variable {o e : Expr} {es : List Expr} {to : TE} {t : TA} {name : Str} {apos cpos : Pos} {T id : String} {r : V -> List V -> Hp -> VK -> Prop}
theorem pe_bm0 (pa : PlainAttrs T) (slot : Slot T name id) (hty : typeOf (.builtin id) = pure (.type "method_descriptor")) (hm : MtR X id r) (ho : PE X o to)
    (hbase : attributeBase o name X.env (eval o X.env) = eval o X.env := by rfl) (hline : (apos.endLine == cpos.line) = true := by rfl) : PE X (.Call (.Attribute o name apos) [] [] cpos) (tBM0 X.K T r to) := by
  intro pins s σ H Q I h
  refine wpAny_Call_method0_late hbase hline (thn (ho pins s σ H _ I h) fun v s1 ⟨x, H1, I1, r1, ty, q1⟩ => ?_)
  obtain ⟨h1, h2⟩ := tyV_is I1 r1 ty
  exact ⟨T, id, pa, slot, hty, h1, h2, Calls.callWith_builtin rfl (PySem.evalArgs_none (hm pins s1 σ H1 x [] v [] Q I1 r1 .nil q1))⟩
theorem pe_bm (pa : PlainAttrs T) (slot : Slot T name id) (hty : typeOf (.builtin id) = pure (.type "method_descriptor")) (hm : MtR X id r) (ho : PE X o to) (ha : PA X (e :: es) t)
    (hbase : attributeBase o name X.env (eval o X.env) = eval o X.env := by rfl)
    (hfew : ((backTo cpos (starEach (e :: es) X.env)).all (fun x => !x.1) && (backToKw cpos (keywordEach [] X.env)).all (fun x => x.1.isSome)
      && decide ((e :: es).length + ([] : List Keyword).length + (if ([] : List Keyword).isEmpty then 0 else 1) < 30)) = true := by rfl)
    (hline : (apos.endLine == cpos.line) = true := by rfl) (hs : starEach (e :: es) X.env = (false, eval e X.env) :: starEach es X.env := by rfl) (hplain : (backTo cpos (starEach es X.env)).any (·.1) = false := by rfl) :
    PE X (.Call (.Attribute o name apos) (e :: es) [] cpos) (tBM X.K T r to t) := by
  intro pins s σ H Q I h
  refine wpAny_Call_method_late hbase hfew hline rfl (thn (ho pins s σ H _ I h) fun v s1 ⟨x, H1, I1, r1, ty, q1⟩ => ?_)
  obtain ⟨h1, h2⟩ := tyV_is I1 r1 ty
  refine ⟨T, id, pa, slot, hty, h1, h2, ?_⟩
  have hA := ha cpos pins s1 σ H1 _ I1 q1
  rw [hs] at hA ⊢
  refine Calls.callWith_builtin (by show (false || (backTo cpos (starEach es X.env)).any (·.1)) = false; rw [hplain] <;> rfl) (Calls.evalArgs_plain ?_)
  exact thn hA fun us s2 ⟨vs, H2, I2, r2, q2⟩ => hm pins s2 σ H2 x vs v us Q I2 r1 r2 q2
end
end L2
namespace L2
open PySem PySem.Spec PyProof.Rows
def MtM (X : Cx) (id : String) (r : V -> List V -> Hp -> VK -> Prop) : Prop :=
  ∀ (pins : List (Addr × Obj)) (s : Shared) (σ : St) (H : Hp) (x : V) (xs : List V) (v : Value) (us : List Value) (Q : VK), Inv X pins σ H s -> RelV x v -> Vals xs us -> r x xs H Q ->
    wpAny (model X.prog X.w) X.A (call (.builtin id) (v :: us)) (EP X pins σ Q) X.xe s
theorem Vals.one : ∀ {x : V} {us : List Value}, Vals [x] us -> ∃ u, us = [u] /\ RelV x u
  | _, _, .cons r .nil => ⟨_, rfl, r⟩
theorem Vals.zero : ∀ {us : List Value}, Vals [] us -> us = []
  | _, .nil => rfl
theorem Vals.dropLast {xs : List V} {us : List Value} (h : Vals xs us) : Vals xs.dropLast us.dropLast := by
  induction h with
  | nil => exact .nil
  | cons r t ih =>
    cases t with
    | nil => exact .nil
    | cons q t' => exact .cons r ih
theorem erase_last {α : Type} (l : List α) : l.eraseIdx (l.length - 1) = l.dropLast := by
  induction l with
  | nil => rfl
  | cons a r ih =>
    cases r with
    | nil => rfl
    | cons b r =>
      have e : (a :: b :: r).length - 1 = ((b :: r).length - 1) + 1 := by
        have h1 : (a :: b :: r).length = r.length + 2 := rfl
        have h2 : (b :: r).length = r.length + 1 := rfl
        omega
      rw [e, List.eraseIdx_cons_succ, ih]
      all_goals rfl
section
variable {X : Cx} {pins : List (Addr × Obj)} {σ : St} {H : Hp} {s : Shared} {l b : Addr} {xs ys zs : List V}
theorem Inv.lset {its its' : List Value} {n : Nat} {f : Array Value -> Array Value} {t' : Nat} (I : Inv X pins σ H s) (hH : H l = some (.lst xs))
    (e : s.heap.get? l = some { cls := .type "list", data := .seq its.toArray n }) (hf : f its.toArray = its'.toArray) (hv : Vals ys its') (hz : ys.length <= sizeLine) :
    Inv X pins σ (upd H l (.lst ys)) { s with heap := s.heap.update l (Obj.mapSeq f), toks := t' } := by
  have q := PySem.IsL.update e f
  rw [hf] at q
  refine I.write (x := l) (e := l) (by rw [hH]; exact trivial) (.inl rfl) (fun b' u hb hu => (Heap.get?_update_other s.heap (Obj.mapSeq f) (Ne.symm hb)).trans hu) ⟨_, q⟩ ?_
  exact ⟨hz, its', _, hv, q⟩
theorem Inv.fresh (I : Inv X pins σ H s) : H s.heap.objs.size = none := I.hok.fresh (Nat.le_refl _)
theorem Inv.lstM (I : Inv X pins σ H s) (hH : H l = some (.lst xs)) : xs.length <= sizeLine /\ ∃ (its : List Value) (n : Nat), Vals xs its /\ xs.length = its.length /\ s.heap.get? l = some { cls := .type "list", data := .seq its.toArray n } := by
  obtain ⟨z, its, n, r, e⟩ := I.hok l _ hH
  exact ⟨z, its, n, r, r.length, e⟩
end
section
variable {X : Cx}
def rAppend : V -> List V -> Hp -> VK -> Prop := fun x vs H Q => ∃ l xs y, x = .ref l /\ vs = [y] /\ H l = some (.lst xs) /\ xs.length < sizeLine /\ Q .non (upd H l (.lst (xs ++ [y])))
theorem mt_append : MtM X "list.append" rAppend := by
  intro pins s σ H x vs v us Q I rx rv h
  obtain ⟨l, xs, y, rfl, rfl, hH, hz, q⟩ := h
  cases rx
  obtain ⟨u, rfl, ru⟩ := rv.one
  obtain ⟨z, its, n, r, hl, e⟩ := I.lstM hH
  refine call_meets F.slot_list_append ⟨_, e, rfl⟩ F.entry_list_append (F.args_list_append_2 _ _) (PySem.list_append l its.toArray n u (by rw [List.size_toArray]; omega)) ⟨e, ?_⟩
  refine ⟨.non, _, I.lset (its' := its ++ [u]) hH e (by simp) (r.append (.cons ru .nil)) ?_, rfl, q⟩
  rw [List.length_append, List.length_singleton]
  omega
def rPop : V -> List V -> Hp -> VK -> Prop := fun x vs H Q => ∃ l xs y, x = .ref l /\ vs = [] /\ H l = some (.lst xs) /\ xs[xs.length - 1]? = some y /\ Q y (upd H l (.lst xs.dropLast))
theorem mt_pop : MtM X "list.pop" rPop := by
  intro pins s σ H x vs v us Q I rx rv h
  obtain ⟨l, xs, y, rfl, rfl, hH, hy, q⟩ := h
  cases rx
  have hus := rv.zero
  subst hus
  obtain ⟨z, its, n, r, hl, e⟩ := I.lstM hH
  obtain ⟨u, hu, ru⟩ := r.get hy
  have hy' : its.toArray[its.toArray.size - 1]? = some u := by
    show its.toArray[its.length - 1]? = some u
    rw [<- Array.getElem?_toList, <- hl]
    exact hu
  refine call_meets F.slot_list_pop ⟨_, e, rfl⟩ F.entry_list_pop (F.args_list_pop_1 _) (MeetsSeq.list_pop_last l its.toArray n u hy' (by rw [List.size_toArray]; omega)) ⟨e, ?_⟩
  refine ⟨y, _, I.lset (its' := its.dropLast) hH e ?_ r.dropLast ?_, ru, q⟩
  · show its.toArray.eraseIdxIfInBounds (its.toArray.size - 1) = its.dropLast.toArray
    rw [List.size_toArray, List.eraseIdxIfInBounds_toArray, erase_last]
  · rw [List.length_dropLast]
    omega
end
section
variable {prog : Program} {w : World} {A : Around} {E : Value -> Shared -> Prop} {s : Shared}
end
section
variable {X : Cx}
end
end L2
namespace Att
open PySem PySem.W PySem.Calls PyProof.Rows
theorem ints_of_wellAll {P : Params} {h : Heap} : ∀ (ns : List Int) (vs : List Value), WellAll P h vs (ns.map WData.int) -> IntsAre vs ns := by
  intro ns
  induction ns with
  | nil =>
    intro vs w
    rw [List.map_nil] at w
    cases w
    exact .nil
  | cons n ns ih =>
    intro vs w
    rw [List.map_cons] at w
    cases w with
    | cons a b =>
      cases a
      exact .cons _ _ (ih _ b)
theorem script_of {l : OpenLaw} {n : Nat} (hn : l.most = some n) {P : Params} {h : Heap} {args : List WData} {vals : List Value}
    (hpre : l.row.toRowW.claim.pre args = true) (hwl : WellAll P h vals args) :
    ∃ a vs ns, vals = [Value.ref a] /\ args = [WData.list (ns.map WData.int)] /\ h.get? a = some { cls := .type "list", data := .seq vs.toArray } /\ IntsAre vs ns /\ ns.length <= n := by
  have hsh : WShape.hasAll [] args [.list .int] = true := (pre_splitW hpre).1
  have hc : l.pre.holds [] { args := args } = true := (pre_splitW hpre).2
  obtain ⟨d, r, rfl, h1, h2⟩ := hasAllW_cons hsh
  obtain rfl := hasAllW_nil h2
  obtain ⟨xs, rfl, h3⟩ := hasW_list h1
  obtain ⟨ns, rfl⟩ := items_int h3
  have hlen : ns.length <= n := by
    unfold OpenLaw.pre at hc
    have h4 : (WTm.not (.lt (.lit (.int (n : Int))) (.len (.arg 0)))).holds [] { args := [.list (ns.map .int)] } = true := by
      have h4 := (holds_andW hc).1
      rw [hn] at h4
      exact h4
    have h5 := condW_of h4 (w_not (w_lt w_lit (w_len_list (w_arg rfl))))
    rw [List.length_map] at h5
    refine Nat.le_of_not_lt fun q => ?_
    have q' : (n : Int) < ((ns.length : Nat) : Int) := by omega
    first
      | (rw [decide_eq_true q'] at h5; exact absurd h5 (by decide))
      | (simp at h5; omega)
  cases hwl with
  | cons w1 w2 =>
    cases w2
    cases w1 with
    | list ho hall => exact ⟨_, _, ns, rfl, rfl, ho, ints_of_wellAll ns _ hall, hlen⟩
theorem post_true (l : OpenLaw) (args : List WData) : l.row.toRowW.claim.post args (.bool true) args = true :=
  postW_of (r := l.row.toRowW) (X := (true == true))
    (show WShape.has [] (.bool true) .bool = true by first | rfl | decide | simp [WShape.has, WShape.arms, WShape.armsAll])
    (show (WTm.eq .res (.lit (.bool true))).value [] { args := args, res := some (.bool true), after := args } = some (.bool (true == true)) from w_eq_bool (w_res rfl) w_lit) rfl
theorem attach_call {l : OpenLaw} {n : Nat} {q : Program} {loose : List Str} {XP : (Str -> Option Value) -> Heap -> Prop} {YP : World -> Heap -> Prop} {d : DefRec}
    (hn : l.most = some n) (hdf : d.params.defaults = [])
    (call : ∀ (w : World) (s₀ s₁ : Shared) (mg mb : Str -> Option Value) (fa : Addr) (o : Obj) (pm cd doc : Value) (a : Addr) (vs : List Value) (ns : List Int),
      Ground q loose [] XP w s₀ mg mb s₁.heap -> YP w s₁.heap ->
      s₁.heap.get? fa = some o -> o.data = .func (docDef d.name d.params d.body d.scope pm cd doc) -> s₁.heap.CodeRec cd d.name -> mg d.name = some (.ref fa) ->
      s₁.heap.get? a = some { cls := .type "list", data := .seq vs.toArray } -> IntsAre vs ns -> ns.length <= n -> s₁.gens = #[] ->
      codeAny (model l.prog w) callerA (.call (.ref fa) ⟨[.ref a], []⟩) (fun r s' => r = .ok (.ret (.bool true)) /\ OldK s₁.heap s'.heap /\ s'.os = s₁.os /\ AllBare s'.gens) s₁) :
    WalkO q loose XP YP l.row.toRowW d [] (fun f vs => PySem.call f vs) := by
  intro w s₀ s₁ mg mb G Y fa o pm cd doc dV kV ho hd hcd hD hmg hg args vals as hpre hlay hrd hwl hlo
  obtain rfl : dV = .none := Dflts.none hD hdf
  obtain rfl : kV = .none := Dflts.noKw hD
  obtain ⟨a, vs, ns, rfl, rfl, hobj, hints, hlen⟩ := script_of hn hpre hwl
  refine enter_call (codeAny_mono (call w s₀ s₁ mg mb fa o pm cd doc a vs ns G Y ho (fd_plain hd) hcd hmg hobj hints hlen hg) fun r s' hq => ?_)
  obtain ⟨rfl, h2, h3, h4⟩ := hq
  exact ⟨.inl ⟨.bool true, .bool true, [], rfl, fun _ => rfl, .bool true, post_true l _, fun _ => ⟨List.Pairwise.nil, fun _ hm => (nomatch hm)⟩⟩, h2, h3, h4⟩
section
variable {prog : Program} {w : World} {A : Around} {E : Value -> Shared -> Prop} {s : Shared} {K : Frag}
end
end Att
namespace L2
open PySem PySem.Spec PyProof.Rows
theorem vals_ints : ∀ {vs : List Value} {ns : List Int}, IntsAre vs ns -> Vals (ns.map V.int) vs
  | _, _, .nil => .nil
  | _, _, .cons n t h => .cons ⟨t, rfl⟩ (vals_ints h)
def Only (H : Hp) : Prop := ∀ b, H b = none \/ ∃ o xs, H b = some (.frz o (.lst xs))
theorem law_call {P : Program} {w : World} {K : PySem.W.Frag} {mg mb : Str -> Option Value} {CX : CXT} {k : Nat} {fa a : Addr} {fd : FuncData} {x : Str} {sp : Sp} {s₁ : Shared} {vs : List Value} {ns : List Int}
    (KX : K.In s₁.heap) (hns : s₁.heap.Ns mainGlobals mg) (hb : s₁.heap.Ns builtinsNs mb) (hbb : ∀ x : Str, x ≠ "__name__" -> mb x = bootBuiltins x) (hlim : s₁.heap.NoLimit) (hg : s₁.gens = #[])
    (ha : s₁.heap.get? a = some { cls := .type "list", data := .seq vs.toArray }) (hi : IntsAre vs ns) (hl : ns.length <= sizeLine) (hr : Room k callerA)
    (F : ∀ base : Heap, K.In base -> base.Ns mainGlobals mg -> FnOk P w K mg base CX k fa fd [x] sp) (hbind : ∀ (s : Shared) (u : Value), BindsTo s fd ⟨[u], []⟩ [(x, u)])
    (hsp : ∀ H : Hp, Only H -> SqL K H a (ns.map V.int) -> sp [.ref a] H (fun v _ => v = .bl true) fun _ _ _ => False)
    (hCX : ∀ H e s', CX [] H s₁ (fun _ _ _ => False) e s' -> False) :
    codeAny (model P w) callerA (.call (.ref fa) ⟨[.ref a], []⟩) (fun r s' => r = .ok (.ret (.bool true)) /\ OldK s₁.heap s'.heap /\ s'.os = s₁.os /\ AllBare s'.gens) s₁ := by
  have rv := vals_ints hi
  have lenV := hi.length
  have core : ∀ H : Hp, Only H -> SqL K H a (ns.map V.int) -> HOk P w H s₁.heap -> (∀ b, H b ≠ none -> b = a) -> (H a ≠ none -> K.lookup a = none) ->
      codeAny (model P w) callerA (.call (.ref fa) ⟨[.ref a], []⟩) (fun r s' => r = .ok (.ret (.bool true)) /\ OldK s₁.heap s'.heap /\ s'.os = s₁.os /\ AllBare s'.gens) s₁ := by
    intro H hO hS hok hA hK
    have base_of : ∀ {b : Addr} {o : Obj}, s₁.heap.get? b = some o -> H b = none -> (hidT s₁.heap H).get? b = some o := fun e n => hidT_get e n
    have noA : ∀ {b : Addr} {o : Obj} {es : Array DictEntry} {ep : Nat}, s₁.heap.get? b = some o -> o.data = .dict es ep -> H b = none := fun {b o es ep} e d => by
      cases q : H b with
      | none => rfl
      | some u =>
        have e' : b = a := hA b (by rw [q]; simp)
        subst e'
        rw [ha] at e; cases e
        have d' : Data.seq vs.toArray _ = Data.dict es ep := d
        cases d'
    have nsK : ∀ {b : Addr} {m : Str -> Option Value}, s₁.heap.Ns b m -> (hidT s₁.heap H).Ns b m := fun {b m} ⟨o, es, ep, e, d, r⟩ => ⟨o, es, ep, base_of e (noA e d), d, r⟩
    have hKb : K.In (hidT s₁.heap H) := fun b o e => base_of (KX b o e) (by
      cases q : H b with
      | none => rfl
      | some u =>
        have e' : b = a := hA b (by rw [q]; simp)
        subst e'
        rw [hK (by rw [q]; simp)] at e; cases e)
    have hM : Mod K mg (hidT s₁.heap H) := ⟨hKb, nsK hns, ⟨mb, nsK hb, hbb⟩, let ⟨mc, h1, h2⟩ := hlim; ⟨mc, nsK h1, h2⟩⟩
    have e0 : Env0 P w K mg (hidT s₁.heap H) callerA [] s₁ H := ⟨rfl, hM, fun b o e => of_hidT e, Nat.le_of_eq (hidT_size _ _), trivial, fun b hb => absurd (show b ∈ ([] : List Addr) from hb) (by simp), hok, .of_eq hg⟩
    refine codeAny_mono ((F _ hKb (nsK hns)).run callerA [] s₁ H ⟨[.ref a], []⟩ [.ref a] [.ref a] _ _ hr e0 (hbind s₁ (.ref a)) (.cons rfl .nil) (hsp H hO hS)) fun r s' h => ?_
    cases r with
    | error e => exact (hCX H e s' h).elim
    | ok fl =>
      cases fl with
      | next => exact False.elim h
      | brk => exact False.elim h
      | cont => exact False.elim h
      | ret u =>
        obtain ⟨v, H', os, bare, un, hok', r', q⟩ := h
        have q' : v = .bl true := q
        subst q'
        obtain rfl : u = Value.bool true := r'
        refine ⟨rfl, OldK.of_keep fun b o e => ?_, os, bare⟩
        cases q : H b with
        | none => exact un.keep b o e q (by intro z; exact absurd (show b ∈ ([] : List Addr) from z) (by simp)) (by simp)
        | some u =>
          rcases hO b with z | ⟨ob, xs, z⟩
          · rw [q] at z; cases z
          · have z2 := un.frzs b ob _ z
            obtain ⟨e1, _⟩ := hok b _ z
            obtain ⟨e2, _⟩ := hok' b _ z2
            rw [e] at e1; cases e1
            exact e2
  cases hk : K.lookup a with
  | some o =>
    have e := KX a o hk
    rw [ha] at e
    cases e
    refine core (fun _ => none) (fun _ => .inl rfl) (.inr ⟨_, vs.toArray, _, hk, rfl, rfl, rfl, by rw [List.size_toArray, lenV]; exact hl, by simpa using rv⟩) (fun b u z => by have z' : (none : Option HO) = some u := z; cases z') (fun b z => absurd rfl z) fun z => absurd rfl z
  | none =>
    refine core (fun b => if b = a then some (.frz { cls := .type "list", data := .seq vs.toArray } (.lst (ns.map V.int))) else none) (fun b => ?_) (.inl (.inr ⟨{ cls := .type "list", data := .seq vs.toArray }, if_pos rfl⟩)) (fun b u z => ?_) (fun b z => ?_) fun _ => hk
    · by_cases hb : b = a
      · exact .inr ⟨_, _, if_pos hb⟩
      · exact .inl (if_neg hb)
    · by_cases hb : b = a
      · have z' := (if_pos hb).symm.trans z
        cases z'
        subst hb
        exact ⟨ha, by rw [List.length_map]; exact hl, vs, _, rv, ha⟩
      · have z' := (if_neg hb).symm.trans z
        cases z'
    · by_cases hb : b = a
      · exact hb
      · exact absurd (if_neg hb) z
end L2
namespace L2
open PySem PySem.Spec PyProof.Rows
abbrev KOf {K : PySem.W.Frag} {h : Heap} (_ : K.In h) : PySem.W.Frag := K
theorem walk_of {l : PySem.W.OpenLaw} {n k : Nat} {q : Program} {loose : List Str} {XP : (Str -> Option Value) -> Heap -> Prop} {YP : World -> Heap -> Prop} {d : DefRec} {K : Params -> PySem.W.Frag} {CX : World -> CXT} {sp : World -> Sp} {x : Str}
    (hn : l.most = some n) (hn2 : n <= sizeLine) (hdf : d.params.defaults = []) (hr : Room k callerA)
    (hY : ∀ (w : World) (h : Heap), YP w h -> (K w.params).In h)
    (F : ∀ (w : World) (mg : Str -> Option Value) (fa : Addr) (h : Heap), (K w.params).In h -> h.Ns mainGlobals mg -> mg d.name = some (.ref fa) ->
      ∃ fd : FuncData, (∀ (s : Shared) (u : Value), BindsTo s fd ⟨[u], []⟩ [(x, u)]) /\
        ∀ base : Heap, (K w.params).In base -> base.Ns mainGlobals mg -> FnOk l.prog w (K w.params) mg base (CX w) k fa fd [x] (sp w))
    (hsp : ∀ (w : World) (H : Hp) (a : Addr) (ns : List Int), ns.length <= n -> Only H -> SqL (K w.params) H a (ns.map V.int) -> sp w [.ref a] H (fun v _ => v = .bl true) fun _ _ _ => False)
    (hCX : ∀ (w : World) (H : Hp) (s : Shared) (e : Value) (s' : Shared), CX w [] H s (fun _ _ _ => False) e s' -> False) :
    PySem.W.WalkO q loose XP YP l.row.toRowW d [] (fun f vs => PySem.call f vs) := by
  refine Att.attach_call hn hdf fun w s₀ s₁ mg mb fa o pm cd doc a vs ns G Y ho hd hcd hmg hobj hints hlen hg => ?_
  have KX := hY w _ Y
  obtain ⟨fd, hb, hF⟩ := F w mg fa _ KX G.T.g hmg
  exact law_call KX G.T.g G.T.b G.T.builtins G.T.nolimit hg hobj hints (Nat.le_trans hlen hn2) hr hF hb (fun H hO hS => hsp w H a ns hlen hO hS) fun H e s' => hCX w H s₁ e s'
theorem walk_ofK {l : PySem.W.OpenLaw} {n k : Nat} {q : Program} {loose : List Str} {XP : (Str -> Option Value) -> Heap -> Prop} {YP : World -> Heap -> Prop} {d : DefRec} {K : Params -> PySem.W.Frag} {CX : CXT} {sp : PySem.W.Frag -> Sp} {x : Str}
    (hn : l.most = some n) (hn2 : n <= sizeLine) (hdf : d.params.defaults = []) (hr : Room k callerA)
    (hY : ∀ (w : World) (h : Heap), YP w h -> (K w.params).In h)
    (F : ∀ (w : World) (mg : Str -> Option Value) (fa : Addr) (h : Heap), (K w.params).In h -> h.Ns mainGlobals mg -> mg d.name = some (.ref fa) ->
      ∃ fd : FuncData, (∀ (s : Shared) (u : Value), BindsTo s fd ⟨[u], []⟩ [(x, u)]) /\
        ∀ base : Heap, (K w.params).In base -> base.Ns mainGlobals mg -> FnOk l.prog w (K w.params) mg base CX k fa fd [x] (sp (K w.params)))
    (hsp : ∀ (K : PySem.W.Frag) (H : Hp) (a : Addr) (ns : List Int), ns.length <= n -> Only H -> SqL K H a (ns.map V.int) -> sp K [.ref a] H (fun v _ => v = .bl true) fun _ _ _ => False)
    (hCX : ∀ (H : Hp) (s : Shared) (e : Value) (s' : Shared), CX [] H s (fun _ _ _ => False) e s' -> False) :
    PySem.W.WalkO q loose XP YP l.row.toRowW d [] (fun f vs => PySem.call f vs) :=
  walk_of (K := K) (CX := fun _ => CX) (sp := fun w => sp (K w.params)) hn hn2 hdf hr hY F (fun w H a ns h1 h2 h3 => hsp (K w.params) H a ns h1 h2 h3) fun _ H s e s' => hCX H s e s'
end L2
namespace L2
open PySem PySem.Spec PyProof.Rows
def inClass (s : Stmt) (j : Nat) : Stmt := match s with
  | .ClassDef _ _ _ body _ _ _ _ _ _ _ => body.getD j (.Pass ⟨0, 0, 0, 0⟩)
  | _ => .Pass ⟨0, 0, 0, 0⟩
def defArgs (s : Stmt) : Arguments := match s with
  | .FunctionDef _ a _ _ _ _ _ _ _ _ => a
  | _ => { posonlyargs := [], args := [], vararg := none, kwonlyargs := [], kw_defaults := [], kwarg := none, defaults := [] }
def defBody (s : Stmt) : List Stmt := match s with
  | .FunctionDef _ _ b _ _ _ _ _ _ _ => b
  | _ => []
def defScope (s : Stmt) : Scope := match s with
  | .FunctionDef _ _ _ _ _ _ sc _ _ _ => sc
  | _ => { kind := .function, names := [], isGenerator := false, isCoroutine := false }
abbrev CX0 : CXT := fun _ _ _ _ _ _ => False
abbrev E0 : XK := fun _ _ _ => False
theorem pass0 {X : Cx} : Passes CX0 X E0 := fun _ _ _ _ _ _ _ h => h.elim
structure Fun (K : PySem.W.Frag) (x qual : Str) (st : Stmt) (f : Addr) (fd : FuncData) : Prop where
  ex : ∃ (oc : Value) (od : Option Addr) (kV doc pm : Value) (an : Option Addr) (cdv ct : Value) (osl : Array (Option Value)),
    fd = PySem.W.fnOf x qual (defArgs st) (defBody st) (defScope st) .none kV doc pm an cdv ct /\ K.lookup f = some ⟨oc, od, .func fd, osl⟩ /\ PySem.W.codeIn K cdv qual = true
  kp : PySem.W.keepIn K (.ref f) = true
section
variable {P : Program} {w : World} {K : PySem.W.Frag} {mg : Str -> Option Value} {base : Heap}
theorem Fun.ok {x qual : Str} {st : Stmt} {f : Addr} {fd : FuncData} {N ps : List Str} {k : Nat} {sp : Sp} (F : Fun K x qual st f fd) (S : FnScope N ps (defScope st)) (len : ∀ vs H Q E, sp vs H Q E -> vs.length = ps.length)
    (hbody : ∀ (cdv : Value) (A : Around) (outer : List Env) (s : Shared) (H : Hp) (vs : List V) (Q : VK) (E : XK), Room k (A.deeper (envOfC qual (defScope st) s.heap.objs.size f cdv)) -> sp vs H Q E ->
      ∃ t, PSs (cxOf CX0 P w K mg base N qual (defScope st) f cdv A outer s H E).nox (defBody st) t /\ t { nx := fun _ H' => Q .non H', rt := Q } (start N vs) H) : FnOk P w K mg base CX0 (k + 1) f fd ps sp := by
  obtain ⟨oc, od, kV, doc, pm, an, cdv, ct, osl, rfl, lk, hcd⟩ := F.ex
  refine fn_of lk hcd S len fun A outer s H vs Q E hr hsp => ?_
  obtain ⟨t, h, q⟩ := hbody cdv A outer s H vs Q E hr hsp
  exact ⟨t, h.nox, q⟩
theorem Fun.binds {x qual : Str} {st : Stmt} {f : Addr} {fd : FuncData} {ps : List Str} (F : Fun K x qual st f fd)
    (h : ∀ (kV doc pm : Value) (an : Option Addr) (cdv ct : Value) (us : List Value), us.length = ps.length -> bindArgs (PySem.W.fnOf x qual (defArgs st) (defBody st) (defScope st) .none kV doc pm an cdv ct) ⟨us, []⟩ = pure (ps.zip us)) : Binds K fd ps [] := by
  obtain ⟨oc, od, kV, doc, pm, an, cdv, ct, osl, rfl, lk, hcd⟩ := F.ex
  exact .all (h kV doc pm an cdv ct)
theorem fun_mk {x qual : Str} {st : Stmt} {f : Addr} {oc : Value} {od an : Option Addr} {osl : Array (Option Value)} {kV doc pm cdv ct : Value} (l : K.lookup f = some ⟨oc, od, .func (PySem.W.fnOf x qual (defArgs st) (defBody st) (defScope st) .none kV doc pm an cdv ct), osl⟩)
    (c : PySem.W.codeIn K cdv qual = true) (k : PySem.W.keepIn K (.ref f) = true) : Fun K x qual st f (PySem.W.fnOf x qual (defArgs st) (defBody st) (defScope st) .none kV doc pm an cdv ct) := ⟨⟨oc, od, kV, doc, pm, an, cdv, ct, osl, rfl, l, c⟩, k⟩
end
section
variable {X : Cx}
theorem pv (i : Nat) {x : Str} {pos : Pos} (hN : X.N[i]? = some x := by rfl) (hv : Vis X.env.scope x := by first | exact Or.inl rfl | exact Or.inr (Or.inl rfl) | exact Or.inr (Or.inr rfl)) (hd : (x == ("__debug__" : Str)) = false := by decide)
    (hcd : (x == ("__classdict__" : Str)) = false := by decide) : PE X (.Name x pos) (tVar i) := pe_var hN hv hd hcd
end
theorem iteF {A B : Prop} (h : B) : if false = true then A else B := by
  rw [if_neg Bool.false_ne_true]
  exact h
theorem iteT {A B : Prop} (h : A) : if true = true then A else B := by
  rw [if_pos rfl]
  exact h
def Same (H H' : Hp) : Prop := ∀ b o, H b = some o -> H' b = some o
theorem Same.refl (H : Hp) : Same H H := fun _ _ h => h
theorem Same.trans {H H1 H2 : Hp} (a : Same H H1) (b : Same H1 H2) : Same H H2 := fun c o h => b c o (a c o h)
theorem Same.free {H H' : Hp} (e : Same H H') {l : Addr} (h : H' l = Option.none) : H l = Option.none := by
  cases q : H l with
  | none => rfl
  | some o =>
    rw [e l o q] at h
    cases h
theorem Same.seq {K : PySem.W.Frag} {H H' : Hp} {a : Addr} {xs : List V} (e : Same H H') (h : SqL K H a xs) : SqL K H' a xs := by
  rcases h with (h | ⟨o, h⟩) | h
  · exact .inl (.inl (e _ _ h))
  · exact .inl (.inr ⟨o, e _ _ h⟩)
  · exact .inr h
end L2
set_option maxHeartbeats 4000000
namespace L2
open PySem PySem.Spec PyProof.Rows
inductive Da where
  | fl (v : V)
  | tup (ds : List Da)
  | lst (ds : List Da)
mutual
def Isd (K : PySem.W.Frag) (H : Hp) : Da -> V -> Prop
  | .fl x, v => v = x /\ flatV x = true
  | .tup ds, v => ∃ a xs, v = .ref a /\ SqT K H a xs /\ Isds K H ds xs
  | .lst ds, v => ∃ a xs, v = .ref a /\ SqL K H a xs /\ Isds K H ds xs
def Isds (K : PySem.W.Frag) (H : Hp) : List Da -> List V -> Prop
  | [], xs => xs = []
  | d :: ds, xs => ∃ v vs, xs = v :: vs /\ Isd K H d v /\ Isds K H ds vs
end
mutual
def eqD : Da -> Da -> Bool
  | .fl x, .fl y => eqV x y
  | .tup a, .tup b => eqDs a b
  | .lst a, .lst b => eqDs a b
  | _, _ => false
def eqDs : List Da -> List Da -> Bool
  | [], [] => true
  | a :: r, b :: t => eqD a b && eqDs r t
  | _, _ => false
end
mutual
def depD : Da -> Nat
  | .fl _ => 0
  | .tup ds => depDs ds + 1
  | .lst ds => depDs ds + 1
def depDs : List Da -> Nat
  | [] => 0
  | d :: ds => max (depD d) (depDs ds)
end
theorem Isds.len {K : PySem.W.Frag} {H : Hp} : ∀ {ds : List Da} {xs : List V}, Isds K H ds xs -> ds.length = xs.length
  | [], xs, h => by unfold Isds at h; subst h; rfl
  | d :: ds, xs, h => by
    unfold Isds at h
    obtain ⟨v, vs, rfl, _, t⟩ := h
    rw [List.length_cons, List.length_cons, Isds.len t]
theorem Isds.get {K : PySem.W.Frag} {H : Hp} : ∀ {ds : List Da} {xs : List V} {i : Nat} {d : Da} {v : V}, Isds K H ds xs -> ds[i]? = some d -> xs[i]? = some v -> Isd K H d v
  | [], _, _, _, _, _, e, _ => by simp at e
  | d :: ds, xs, 0, _, _, h, e, q => by
    unfold Isds at h
    obtain ⟨v, vs, rfl, hd, t⟩ := h
    simp at e q
    subst e q
    exact hd
  | d :: ds, xs, i + 1, _, _, h, e, q => by
    unfold Isds at h
    obtain ⟨v, vs, rfl, hd, t⟩ := h
    exact Isds.get t (by simpa using e) (by simpa using q)
theorem eqV_refl {x : V} (h : flatV x = true) : eqV x x = true := by
  cases x with
  | non => rfl
  | bl b => show (b == b) = true; simp
  | int i => show (i == i) = true; simp
  | str z => show (z == z) = true; simp
  | _ => exact absurd (show false = true from h) Bool.false_ne_true
section
variable {X : Cx} {pins : List (Addr × Obj)} {σ : St} {H : Hp} {s : Shared}
theorem Inv.lst_tup (I : Inv X pins σ H s) {a : Addr} {xs ys : List V} (h : SqL X.K H a xs) (h' : SqT X.K H a ys) : False := by
  obtain ⟨its, _, ⟨o1, n1, e1, c1, _⟩, _⟩ := I.list h
  obtain ⟨its2, _, ⟨o, e2, c2, _⟩, _⟩ := I.tuple h'
  rw [e1] at e2
  cases e2
  rw [c1] at c2
  exact absurd (Value.type.inj c2) (by decide)
theorem Isd.flat_ref {K : PySem.W.Frag} {a : Addr} {x : V} (h : Isd K H (.fl x) (.ref a)) : False := by
  unfold Isd at h
  obtain ⟨e, f⟩ := h
  subst e
  exact absurd (show false = true from f) Bool.false_ne_true
mutual
theorem Isd.inj (I : Inv X pins σ H s) : ∀ (d e : Da) {v : V}, Isd X.K H d v -> Isd X.K H e v -> d = e
  | .fl x, .fl y, v, h, q => by
    unfold Isd at h q
    rw [<- h.1, <- q.1]
  | .fl x, .tup ys, v, h, q => by
    unfold Isd at q
    obtain ⟨a, zs, e, _⟩ := q
    subst e
    exact h.flat_ref.elim
  | .fl x, .lst ys, v, h, q => by
    unfold Isd at q
    obtain ⟨a, zs, e, _⟩ := q
    subst e
    exact h.flat_ref.elim
  | .tup xs, .fl y, v, h, q => by
    unfold Isd at h
    obtain ⟨a, zs, e, _⟩ := h
    subst e
    exact q.flat_ref.elim
  | .lst xs, .fl y, v, h, q => by
    unfold Isd at h
    obtain ⟨a, zs, e, _⟩ := h
    subst e
    exact q.flat_ref.elim
  | .tup xs, .tup ys, v, h, q => by
    unfold Isd at h q
    obtain ⟨a, us, e, ha, hs⟩ := h
    obtain ⟨b, ws, e', hb, qs⟩ := q
    subst e
    cases e'
    rw [I.tuple_inj ha hb] at hs
    rw [Isds.inj I xs ys hs qs]
  | .lst xs, .lst ys, v, h, q => by
    unfold Isd at h q
    obtain ⟨a, us, e, ha, hs⟩ := h
    obtain ⟨b, ws, e', hb, qs⟩ := q
    subst e
    cases e'
    rw [I.list_inj ha hb] at hs
    rw [Isds.inj I xs ys hs qs]
  | .tup xs, .lst ys, v, h, q => by
    unfold Isd at h q
    obtain ⟨a, us, e, ha, hs⟩ := h
    obtain ⟨b, ws, e', hb, qs⟩ := q
    subst e
    cases e'
    exact (I.lst_tup hb ha).elim
  | .lst xs, .tup ys, v, h, q => by
    unfold Isd at h q
    obtain ⟨a, us, e, ha, hs⟩ := h
    obtain ⟨b, ws, e', hb, qs⟩ := q
    subst e
    cases e'
    exact (I.lst_tup ha hb).elim
theorem Isds.inj (I : Inv X pins σ H s) : ∀ (ds es : List Da) {vs : List V}, Isds X.K H ds vs -> Isds X.K H es vs -> ds = es
  | [], [], _, _, _ => rfl
  | [], e :: es, vs, h, q => by
    unfold Isds at h q
    obtain ⟨v, r, e1, _⟩ := q
    rw [h] at e1; cases e1
  | d :: ds, [], vs, h, q => by
    unfold Isds at h q
    obtain ⟨v, r, e1, _⟩ := h
    rw [q] at e1; cases e1
  | d :: ds, e :: es, vs, h, q => by
    unfold Isds at h q
    obtain ⟨v, r, e1, h1, h2⟩ := h
    obtain ⟨v', r', e2, q1, q2⟩ := q
    subst e1
    cases e2
    rw [Isd.inj I d e h1 q1, Isds.inj I ds es h2 q2]
end
mutual
theorem eqD_refl {K : PySem.W.Frag} : ∀ (d : Da) {v : V}, Isd K H d v -> eqD d d = true
  | .fl x, v, h => by
    unfold Isd at h
    unfold eqD
    exact eqV_refl h.2
  | .tup ds, v, h => by
    unfold Isd at h
    obtain ⟨_, _, _, _, hs⟩ := h
    unfold eqD
    exact eqDs_refl ds hs
  | .lst ds, v, h => by
    unfold Isd at h
    obtain ⟨_, _, _, _, hs⟩ := h
    unfold eqD
    exact eqDs_refl ds hs
theorem eqDs_refl {K : PySem.W.Frag} : ∀ (ds : List Da) {vs : List V}, Isds K H ds vs -> eqDs ds ds = true
  | [], _, _ => by unfold eqDs; rfl
  | d :: ds, vs, h => by
    unfold Isds at h
    obtain ⟨_, _, _, h1, h2⟩ := h
    unfold eqDs
    rw [eqD_refl d h1, eqDs_refl ds h2]
    rfl
end
theorem eqDs_all : ∀ (ds es : List Da), ds.length = es.length -> (List.range ds.length).all (fun j => match ds[j]?, es[j]? with | some a, some b => eqD a b | _, _ => false) = eqDs ds es
  | [], [], _ => by unfold eqDs; rfl
  | [], _ :: _, h => by simp at h
  | _ :: _, [], h => by simp at h
  | d :: ds, e :: es, h => by
    have ih := eqDs_all ds es (by simpa using h)
    unfold eqDs
    rw [<- ih, List.length_cons, List.range_succ_eq_map, List.all_cons, List.all_map]
    simp only [List.getElem?_cons_zero, Function.comp_def, List.getElem?_cons_succ]
theorem eqDs_len : ∀ (ds es : List Da), ds.length ≠ es.length -> eqDs ds es = false
  | [], [], h => by simp at h
  | [], _ :: _, _ => by unfold eqDs; rfl
  | _ :: _, [], _ => by unfold eqDs; rfl
  | d :: ds, e :: es, h => by
    unfold eqDs
    rw [eqDs_len ds es (by simpa using h), Bool.and_false]
theorem depD_mem : ∀ {ds : List Da} {d : Da} {j : Nat}, ds[j]? = some d -> depD d <= depDs ds
  | [], _, _, h => by simp at h
  | d :: ds, _, 0, h => by
    simp at h
    subst h
    unfold depDs
    omega
  | d :: ds, e, j + 1, h => by
    have := depD_mem (ds := ds) (d := e) (j := j) (by simpa using h)
    unfold depDs
    omega
def atE (ds es : List Da) (j : Nat) : Bool := match ds[j]?, es[j]? with
  | some a, some b => eqD a b
  | _, _ => false
theorem items_D {K : PySem.W.Frag} {n : Nat} {A : Around} (hE : ∀ (d e : Da) (v x : V) (u w : Value), depD d <= n -> Isd K H d v -> Isd K H e x -> RelV v u -> RelV x w -> SeqAt.EqAt A s u w (eqD d e)) {ds es : List Da} {xs ys : List V} {us ws : List Value} (hdp : depDs ds <= n)
    (h1 : Isds K H ds xs) (h2 : Isds K H es ys) (r1 : Vals xs us) (r2 : Vals ys ws) (j : Nat) (l1 : j < us.toArray.size) (l2 : j < ws.toArray.size) : SeqAt.EqAt A s us.toArray[j] ws.toArray[j] (atE ds es j) := by
  have l1' : j < us.length := by simpa using l1
  have l2' : j < ws.length := by simpa using l2
  have q1 := h1.len
  have q2 := h2.len
  have q3 := r1.length
  have q4 := r2.length
  have a1 : ds[j]? = some ds[j] := List.getElem?_eq_getElem (by omega)
  have a2 : es[j]? = some es[j] := List.getElem?_eq_getElem (by omega)
  have a3 : xs[j]? = some xs[j] := List.getElem?_eq_getElem (by omega)
  have a4 : ys[j]? = some ys[j] := List.getElem?_eq_getElem (by omega)
  obtain ⟨u1, b1, c1⟩ := r1.get a3
  obtain ⟨w1, b2, c2⟩ := r2.get a4
  have e1 : us.toArray[j] = u1 := by
    have : us[j] = u1 := by rw [List.getElem?_eq_getElem l1'] at b1; exact Option.some.inj b1
    simpa using this
  have e2 : ws.toArray[j] = w1 := by
    have : ws[j] = w1 := by rw [List.getElem?_eq_getElem l2'] at b2; exact Option.some.inj b2
    simpa using this
  rw [e1, e2]
  unfold atE
  rw [a1, a2]
  exact hE ds[j] es[j] _ _ _ _ (Nat.le_trans (depD_mem a1) hdp) (h1.get a1 a3) (h2.get a2 a4) c1 c2
theorem eqAt_D (I : Inv X pins σ H s) : ∀ (n : Nat) (d e : Da) {A : Around} {v x : V} {u w : Value}, depD d <= n -> Isd X.K H d v -> Isd X.K H e x -> RelV v u -> RelV x w -> A.units + n < cLine -> SeqAt.EqAt A s u w (eqD d e) := by
  intro n
  induction n with
  | zero =>
    intro d e A v x u w hn hd he ru rw' hu
    cases d with
    | tup ds => unfold depD at hn; omega
    | lst ds => unfold depD at hn; omega
    | fl y =>
      unfold Isd at hd
      obtain ⟨rfl, fy⟩ := hd
      cases e with
      | fl z =>
        unfold Isd at he
        obtain ⟨rfl, fz⟩ := he
        unfold eqD
        exact eqAt_V ru rw' fy fz
      | tup es =>
        unfold Isd at he
        obtain ⟨a, xs, rfl, ha, _⟩ := he
        obtain ⟨its, _, p, _⟩ := I.tuple ha
        cases rw'
        have p' : s.heap.IsTuple a its.toArray := p
        cases v with
        | non => cases ru; exact SeqAt.EqAt.none_tuple p' (by omega)
        | bl b => cases ru; exact SeqAt.EqAt.bool_tuple b p' (by omega)
        | int i => obtain ⟨t, rfl⟩ := ru; exact SeqAt.EqAt.int_tuple i t p' (by omega)
        | str z => obtain ⟨t, rfl⟩ := ru; exact SeqAt.EqAt.str_tuple z t p' (by omega)
        | _ => exact absurd (show false = true from fy) Bool.false_ne_true
      | lst es =>
        unfold Isd at he
        obtain ⟨a, xs, rfl, ha, _⟩ := he
        obtain ⟨its, _, p, _⟩ := I.list ha
        cases rw'
        have p' := p.isList
        cases v with
        | non => cases ru; exact SeqAt.EqAt.none_list p' (by omega)
        | bl b => cases ru; exact SeqAt.EqAt.bool_list b p' (by omega)
        | int i => obtain ⟨t, rfl⟩ := ru; exact SeqAt.EqAt.int_list i t p' (by omega)
        | str z => obtain ⟨t, rfl⟩ := ru; exact SeqAt.EqAt.str_list z t p' (by omega)
        | _ => exact absurd (show false = true from fy) Bool.false_ne_true
  | succ n ih =>
    intro d e A v x u w hn hd he ru rw' hu
    have items : ∀ {ds es : List Da} {xs ys : List V} {us ws : List Value}, depDs ds <= n -> Isds X.K H ds xs -> Isds X.K H es ys -> Vals xs us -> Vals ys ws ->
        ∀ j (h1 : j < us.toArray.size) (h2 : j < ws.toArray.size), SeqAt.EqAt A.in1 s us.toArray[j] ws.toArray[j] (atE ds es j) :=
      items_D (n := n) fun d e v x u w h1 h2 h3 h4 h5 => ih d e h1 h2 h3 h4 h5 (by show A.units + 1 + n < cLine; omega)
    cases d with
    | fl y =>
      exact ih (.fl y) e (by unfold depD; omega) hd he ru rw' (by omega)
    | tup ds =>
      cases e with
      | fl z =>
        unfold Isd at hd he
        obtain ⟨a, xs, rfl, ha, _⟩ := hd
        obtain ⟨rfl, fz⟩ := he
        obtain ⟨its, _, p, _⟩ := I.tuple ha
        cases ru
        have p' : s.heap.IsTuple a its.toArray := p
        cases x with
        | non => cases rw'; exact SeqAt.EqAt.tuple_none p' (by omega)
        | bl b => cases rw'; exact SeqAt.EqAt.tuple_bool b p' (by omega)
        | int i => obtain ⟨t, rfl⟩ := rw'; exact SeqAt.EqAt.tuple_int i t p' (by omega)
        | str z => obtain ⟨t, rfl⟩ := rw'; exact SeqAt.EqAt.tuple_str z t p' (by omega)
        | _ => exact absurd (show false = true from fz) Bool.false_ne_true
      | tup es =>
        have hd0 := hd
        have he0 := he
        unfold Isd at hd he
        obtain ⟨a, xs, rfl, ha, hs⟩ := hd
        obtain ⟨b, ys, rfl, hb, qs⟩ := he
        cases ru
        cases rw'
        by_cases hab : a = b
        · subst hab
          rw [<- Isd.inj I (.tup ds) (.tup es) hd0 he0, eqD_refl _ hd0]
          exact SeqAt.EqAt.same _
        · obtain ⟨us, r1, p1, _⟩ := I.tuple ha
          obtain ⟨ws, r2, p2, _⟩ := I.tuple hb
          have hdp : depDs ds <= n := by unfold depD at hn; omega
          have key := SeqAt.RcAt.tuples (A := A) (e := atE ds es) (show s.heap.IsTuple a us.toArray from p1) (show s.heap.IsTuple b ws.toArray from p2) (by omega) (items hdp hs qs r1 r2)
          have ev : ((List.range (min us.toArray.size ws.toArray.size)).all (atE ds es) && us.toArray.size == ws.toArray.size) = eqD (.tup ds) (.tup es) := by
            have q1 := hs.len
            have q2 := qs.len
            have q3 := r1.length
            have q4 := r2.length
            have z1 : us.toArray.size = ds.length := by simp; omega
            have z2 : ws.toArray.size = es.length := by simp; omega
            unfold eqD
            rw [z1, z2]
            by_cases hl : ds.length = es.length
            · rw [<- eqDs_all ds es hl, hl, Nat.min_self, beq_self_eq_true, Bool.and_true]
              rfl
            · rw [eqDs_len ds es hl, beq_eq_false_iff_ne.mpr hl, Bool.and_false]
          rw [ev] at key
          exact SeqAt.EqAt.of_refs hab key
      | lst es =>
        unfold Isd at hd he
        obtain ⟨a, xs, rfl, ha, hs⟩ := hd
        obtain ⟨b, ys, rfl, hb, qs⟩ := he
        cases ru
        cases rw'
        obtain ⟨us, r1, p1, _⟩ := I.tuple ha
        obtain ⟨ws, r2, p2, _⟩ := I.list hb
        unfold eqD
        exact SeqAt.EqAt.tuple_list (show s.heap.IsTuple a us.toArray from p1) p2.isList (by omega)
    | lst ds =>
      cases e with
      | fl z =>
        unfold Isd at hd he
        obtain ⟨a, xs, rfl, ha, _⟩ := hd
        obtain ⟨rfl, fz⟩ := he
        obtain ⟨its, _, p, _⟩ := I.list ha
        cases ru
        have p' := p.isList
        cases x with
        | non => cases rw'; exact SeqAt.EqAt.list_none p' (by omega)
        | bl b => cases rw'; exact SeqAt.EqAt.list_bool b p' (by omega)
        | int i => obtain ⟨t, rfl⟩ := rw'; exact SeqAt.EqAt.list_int i t p' (by omega)
        | str z => obtain ⟨t, rfl⟩ := rw'; exact SeqAt.EqAt.list_str z t p' (by omega)
        | _ => exact absurd (show false = true from fz) Bool.false_ne_true
      | tup es =>
        unfold Isd at hd he
        obtain ⟨a, xs, rfl, ha, hs⟩ := hd
        obtain ⟨b, ys, rfl, hb, qs⟩ := he
        cases ru
        cases rw'
        obtain ⟨us, r1, p1, _⟩ := I.list ha
        obtain ⟨ws, r2, p2, _⟩ := I.tuple hb
        unfold eqD
        exact SeqAt.EqAt.list_tuple p1.isList (show s.heap.IsTuple b ws.toArray from p2) (by omega)
      | lst es =>
        have hd0 := hd
        have he0 := he
        unfold Isd at hd he
        obtain ⟨a, xs, rfl, ha, hs⟩ := hd
        obtain ⟨b, ys, rfl, hb, qs⟩ := he
        cases ru
        cases rw'
        by_cases hab : a = b
        · subst hab
          rw [<- Isd.inj I (.lst ds) (.lst es) hd0 he0, eqD_refl _ hd0]
          exact SeqAt.EqAt.same _
        · obtain ⟨us, r1, p1, _⟩ := I.list ha
          obtain ⟨ws, r2, p2, _⟩ := I.list hb
          have hdp : depDs ds <= n := by unfold depD at hn; omega
          have q1 := hs.len
          have q2 := qs.len
          have q3 := r1.length
          have q4 := r2.length
          have z1 : us.toArray.size = ds.length := by simp; omega
          have z2 : ws.toArray.size = es.length := by simp; omega
          by_cases hl : ds.length = es.length
          · have key := SeqAt.RcAt.lists (A := A) (e := atE ds es) p1.isList p2.isList (by rw [z1, z2]; exact hl) (by omega) (items hdp hs qs r1 r2)
            have ev : (List.range us.toArray.size).all (atE ds es) = eqD (.lst ds) (.lst es) := by
              unfold eqD
              rw [z1, <- eqDs_all ds es hl]
              rfl
            rw [ev] at key
            exact SeqAt.EqAt.of_refs hab key
          · have key := SeqAt.RcAt.lists_lengths (A := A) p1.isList p2.isList (by rw [z1, z2]; exact bne_iff_ne.mpr hl) (by omega)
            have ev : false = eqD (.lst ds) (.lst es) := by
              unfold eqD
              rw [eqDs_len ds es hl]
            rw [ev] at key
            exact SeqAt.EqAt.of_refs hab key
theorem all_T {ds es : List Da} {us ws : List Value} (q1 : ds.length = us.length) (q2 : es.length = ws.length) : ((List.range (min us.toArray.size ws.toArray.size)).all (atE ds es) && us.toArray.size == ws.toArray.size) = eqDs ds es := by
  have z1 : us.toArray.size = ds.length := by simp; omega
  have z2 : ws.toArray.size = es.length := by simp; omega
  rw [z1, z2]
  by_cases hl : ds.length = es.length
  · rw [<- eqDs_all ds es hl, hl, Nat.min_self, beq_self_eq_true, Bool.and_true]
    rfl
  · rw [eqDs_len ds es hl, beq_eq_false_iff_ne.mpr hl, Bool.and_false]
def rCmpD (K : PySem.W.Frag) (f : Bool -> Bool) : R2 := fun x y H Q => ∃ a b xs ys ds es, x = .ref a /\ y = .ref b /\ ((SqT K H a xs /\ SqT K H b ys) \/ (SqL K H a xs /\ SqL K H b ys)) /\ Isds K H ds xs /\ Isds K H es ys /\ depDs ds <= 50 /\ Q (.bl (f (eqDs ds es))) H
theorem op_eqD (hu : X.A.units + 64 < cLine) : OpR X (compareOp .Eq) (rCmpD X.K id) := by
  intro pins s σ H x y v u Q I rx ry h
  obtain ⟨a, b, xs, ys, ds, es, rfl, rfl, hq, hs, qs, hd, q⟩ := h
  cases rx
  cases ry
  have items := fun {us ws : List Value} (r1 : Vals xs us) (r2 : Vals ys ws) => items_D (s := s) (H := H) (n := 50) (A := X.A.in1) (fun d e v x u w h1 h2 h3 h4 h5 => eqAt_D I 50 d e h1 h2 h3 h4 h5 (by show X.A.units + 1 + 50 < cLine; omega)) hd hs qs r1 r2
  rcases hq with ⟨ha, hb⟩ | ⟨ha, hb⟩
  · obtain ⟨us, r1, p1, _⟩ := I.tuple ha
    obtain ⟨ws, r2, p2, _⟩ := I.tuple hb
    refine SeqAt.eq_tupleAt (e := atE ds es) (show s.heap.IsTuple a us.toArray from p1) (show s.heap.IsTuple b ws.toArray from p2) (by omega) (items r1 r2) ?_
    rw [all_T (hs.len.trans r1.length) (qs.len.trans r2.length)]
    exact ⟨.bl _, H, I, rfl, q⟩
  · obtain ⟨us, r1, p1, _⟩ := I.list ha
    obtain ⟨ws, r2, p2, _⟩ := I.list hb
    have z1 : us.toArray.size = ds.length := by have q1 := hs.len; have q3 := r1.length; simp; omega
    have z2 : ws.toArray.size = es.length := by have q1 := qs.len; have q3 := r2.length; simp; omega
    by_cases hl : ds.length = es.length
    · refine SeqAt.eq_listAt (e := atE ds es) p1.isList p2.isList (by rw [z1, z2]; exact hl) (by omega) (items r1 r2) ?_
      have ev : (List.range us.toArray.size).all (atE ds es) = eqDs ds es := by
        rw [z1, <- eqDs_all ds es hl]
        rfl
      rw [ev]
      exact ⟨.bl _, H, I, rfl, q⟩
    · refine SeqAt.eq_list_lengthsAt p1.isList p2.isList (by rw [z1, z2]; exact bne_iff_ne.mpr hl) (by omega) ?_
      have ev : false = eqDs ds es := (eqDs_len ds es hl).symm
      rw [ev]
      exact ⟨.bl _, H, I, rfl, q⟩
theorem op_neD (hu : X.A.units + 64 < cLine) : OpR X (compareOp .NotEq) (rCmpD X.K not) := by
  intro pins s σ H x y v u Q I rx ry h
  obtain ⟨a, b, xs, ys, ds, es, rfl, rfl, hq, hs, qs, hd, q⟩ := h
  cases rx
  cases ry
  have items := fun {us ws : List Value} (r1 : Vals xs us) (r2 : Vals ys ws) => items_D (s := s) (H := H) (n := 50) (A := X.A.in1) (fun d e v x u w h1 h2 h3 h4 h5 => eqAt_D I 50 d e h1 h2 h3 h4 h5 (by show X.A.units + 1 + 50 < cLine; omega)) hd hs qs r1 r2
  rcases hq with ⟨ha, hb⟩ | ⟨ha, hb⟩
  · obtain ⟨us, r1, p1, _⟩ := I.tuple ha
    obtain ⟨ws, r2, p2, _⟩ := I.tuple hb
    refine SeqAt.RcNeAt.tuples (e := atE ds es) (show s.heap.IsTuple a us.toArray from p1) (show s.heap.IsTuple b ws.toArray from p2) (by omega) (items r1 r2) _ _ _ _ ?_
    rw [all_T (hs.len.trans r1.length) (qs.len.trans r2.length)]
    exact ⟨.bl _, H, I, rfl, q⟩
  · obtain ⟨us, r1, p1, _⟩ := I.list ha
    obtain ⟨ws, r2, p2, _⟩ := I.list hb
    have z1 : us.toArray.size = ds.length := by have q1 := hs.len; have q3 := r1.length; simp; omega
    have z2 : ws.toArray.size = es.length := by have q1 := qs.len; have q3 := r2.length; simp; omega
    by_cases hl : ds.length = es.length
    · refine SeqAt.RcNeAt.lists (e := atE ds es) p1.isList p2.isList (by rw [z1, z2]; exact hl) (by omega) (items r1 r2) _ _ _ _ ?_
      have ev : (List.range us.toArray.size).all (atE ds es) = eqDs ds es := by
        rw [z1, <- eqDs_all ds es hl]
        rfl
      rw [ev]
      exact ⟨.bl _, H, I, rfl, q⟩
    · refine SeqAt.RcNeAt.lists_lengths p1.isList p2.isList (by rw [z1, z2]; exact bne_iff_ne.mpr hl) (by omega) _ _ _ _ ?_
      have ev : true = !eqDs ds es := by rw [eqDs_len ds es hl]; rfl
      rw [ev]
      exact ⟨.bl _, H, I, rfl, q⟩
end
end L2
namespace L2
open PySem PySem.Spec PyProof.Rows
theorem clos_loop (env : Env) : ∀ (names : List (Str × NameKind)) (cs : List (Str × Addr)), (∀ x, (x, NameKind.free) ∈ names -> ∃ c, env.cells.lookup x = some c) ->
    (∀ x c, cs.lookup x = some c -> env.cells.lookup x = some c) ->
    ∃ cl : List (Str × Addr), (forIn names cs fun (x : Str × NameKind) (r : List (Str × Addr)) => if (x.snd == NameKind.free) = true then do let a <- cellOf env x.fst; pure (ForInStep.yield ((x.fst, a) :: r)) else (pure (ForInStep.yield r) : Sem _)) = (pure cl : Sem _) /\
      (∀ x c, cl.lookup x = some c -> env.cells.lookup x = some c) /\ ∀ x, ((x, NameKind.free) ∈ names \/ ∃ c, cs.lookup x = some c) -> ∃ c, cl.lookup x = some c
  | [], cs, _, h2 => ⟨cs, rfl, h2, fun x hx => hx.elim (fun z => nomatch z) fun z => z⟩
  | (n, k) :: r, cs, h1, h2 => by
    cases hk : (k == NameKind.free) with
    | true =>
      have ek : k = .free := by simpa using hk
      subst ek
      obtain ⟨c, hc⟩ := h1 n List.mem_cons_self
      obtain ⟨cl, e, a, b⟩ := clos_loop env r ((n, c) :: cs) (fun x hx => h1 x (List.mem_cons_of_mem _ hx)) (fun x d hd => by
        rw [List.lookup_cons] at hd
        cases hx : x == n with
        | true =>
          rw [hx] at hd
          have : x = n := by simpa using hx
          subst this
          cases hd
          exact hc
        | false => rw [hx] at hd; exact h2 x d hd)
      refine ⟨cl, ?_, a, fun x hx => b x ?_⟩
      · rw [<- e, List.forIn_cons]
        have hcell : cellOf env n = pure c := by unfold cellOf; rw [hc]
        simp only [hk, if_true]
        rw [hcell]
        rfl
      · rcases hx with hx | ⟨d, hd⟩
        · rcases List.mem_cons.mp hx with q | q
          · cases q
            exact .inr ⟨c, by rw [List.lookup_cons]; simp⟩
          · exact .inl q
        · refine .inr ?_
          rw [List.lookup_cons]
          cases hx : x == n with
          | true => exact ⟨c, rfl⟩
          | false => exact ⟨d, hd⟩
    | false =>
      obtain ⟨cl, e, a, b⟩ := clos_loop env r cs (fun x hx => h1 x (List.mem_cons_of_mem _ hx)) h2
      refine ⟨cl, ?_, a, fun x hx => b x ?_⟩
      · rw [<- e, List.forIn_cons]
        simp only [hk, Bool.false_eq_true, if_false]
        rfl
      · rcases hx with hx | hx
        · rcases List.mem_cons.mp hx with q | q
          · cases q
            simp at hk
          · exact .inl q
        · exact .inr hx
theorem clos_ok {scope : Scope} {env : Env} (h1 : ∀ x, (x, NameKind.free) ∈ scope.names -> ∃ c, env.cells.lookup x = some c) :
    ∃ cl : List (Str × Addr), closureFor scope env = pure cl /\ (∀ x c, cl.lookup x = some c -> env.cells.lookup x = some c) /\ ∀ x, (x, NameKind.free) ∈ scope.names -> ∃ c, cl.lookup x = some c := by
  obtain ⟨cl, e, a, b⟩ := clos_loop env scope.names [] h1 (fun x c h => by simp at h)
  refine ⟨cl, ?_, a, fun x hx => b x (.inl hx)⟩
  simp only [closureFor]
  rw [e]
  rfl
def Cx.comp (X : Cx) (sc : Scope) (cl : List (Str × Addr)) (C : Addr) (N : List Str) (s : Shared) (H : Hp) (fp : List Addr) : Cx :=
  { X with N := N, s₀ := s, H₀ := H, env := compEnvC sc cl C X.env, outer := X.stack, ex := fp, fn := fun _ => false, pn := [], xe := fun _ _ => False }
def compChk (N : List Str) (osc sc : Scope) (t : Str) (ys : List Str) (js : List Nat) : Bool :=
  sc.kind == .function && sc.names.all (fun y => y.2 != .cell) && sc.names.all (fun y => y.2 != .local || sc.names.lookup y.1 == some .local) &&
  sc.names.all (fun y => y.2 != .free || osc.names.lookup y.1 == some .cell) && (ys.map some == js.map fun j => N[j]?) &&
  ys.all (fun y => sc.names.lookup y == some .free) && sc.names.lookup t == some .local && decide ((t :: ys).Nodup)
structure CompOk (N : List Str) (osc sc : Scope) (t : Str) (ys : List Str) (js : List Nat) : Prop where
  kind : sc.kind = .function
  ncell : ∀ y ∈ sc.names, y.2 ≠ .cell
  loc : ∀ y ∈ sc.names, y.2 = .local -> sc.names.lookup y.1 = some .local
  fre : ∀ y ∈ sc.names, y.2 = .free -> osc.names.lookup y.1 = some .cell
  ysj : ys.map some = js.map fun j => N[j]?
  ysf : ∀ y ∈ ys, sc.names.lookup y = some .free
  tl : sc.names.lookup t = some .local
  nd : (t :: ys).Nodup
theorem compOk_of {N : List Str} {osc sc : Scope} {t : Str} {ys : List Str} {js : List Nat} (h : compChk N osc sc t ys js = true) : CompOk N osc sc t ys js := by
  unfold compChk at h
  simp only [Bool.and_eq_true, List.all_eq_true, decide_eq_true_eq, Bool.or_eq_true, bne_iff_ne, beq_iff_eq] at h
  obtain ⟨⟨⟨⟨⟨⟨⟨a, b⟩, c⟩, d⟩, e⟩, f⟩, g⟩, i⟩ := h
  exact ⟨a, fun y hy => b y hy, fun y hy z => (c y hy).resolve_left fun q => q z, fun y hy z => (d y hy).resolve_left fun q => q z, e, f, g, i⟩
def compS (js : List Nat) (σ : St) : St := js.map fun j => (σ[j]?).join
theorem relabel_inv {env : Env} {x : Str} : ∀ {names : List (Str × NameKind)} {k : NameKind}, (names.map fun (n, k) => if (k == NameKind.free && env.scope.kind == .function && env.kindOf n == some .cell) then (n, NameKind.cell) else (n, k)).lookup x = some k ->
    names.lookup x = some k \/ (k = .cell /\ names.lookup x = some .free)
  | [], _, h => by simp at h
  | (n, q) :: r, k, h => by
    have ih := @relabel_inv env x r k
    have h' : List.lookup x ((if (q == NameKind.free && env.scope.kind == .function && env.kindOf n == some .cell) = true then (n, NameKind.cell) else (n, q)) :: _) = some k := h
    cases hx : x == n with
    | true =>
      by_cases hc : (q == NameKind.free && env.scope.kind == .function && env.kindOf n == some .cell) = true
      · rw [if_pos hc] at h'
        simp only [List.lookup_cons, hx] at h' ⊢
        have eq : q = .free := by simp only [Bool.and_eq_true, beq_iff_eq] at hc; exact hc.1.1
        cases h'
        exact .inr ⟨rfl, by rw [eq]⟩
      · rw [if_neg hc] at h'
        simp only [List.lookup_cons, hx] at h' ⊢
        exact .inl h'
    | false =>
      by_cases hc : (q == NameKind.free && env.scope.kind == .function && env.kindOf n == some .cell) = true
      · rw [if_pos hc] at h'
        simp only [List.lookup_cons, hx] at h' ⊢
        exact ih h'
      · rw [if_neg hc] at h'
        simp only [List.lookup_cons, hx] at h' ⊢
        exact ih h'
theorem relabel_free {env : Env} {x : Str} : ∀ {names : List (Str × NameKind)}, names.lookup x = some .free ->
    (names.map fun (n, k) => if (k == NameKind.free && env.scope.kind == .function && env.kindOf n == some .cell) then (n, NameKind.cell) else (n, k)).lookup x = some .cell \/
    (names.map fun (n, k) => if (k == NameKind.free && env.scope.kind == .function && env.kindOf n == some .cell) then (n, NameKind.cell) else (n, k)).lookup x = some .free
  | [], h => by simp at h
  | (n, q) :: r, h => by
    have ih := @relabel_free env x r
    show List.lookup x ((if (q == NameKind.free && env.scope.kind == .function && env.kindOf n == some .cell) = true then (n, NameKind.cell) else (n, q)) :: _) = some .cell \/ List.lookup x ((if (q == NameKind.free && env.scope.kind == .function && env.kindOf n == some .cell) = true then (n, NameKind.cell) else (n, q)) :: _) = some .free
    cases hx : x == n with
    | true =>
      simp only [List.lookup_cons, hx] at h
      cases h
      by_cases hc : (NameKind.free == NameKind.free && env.scope.kind == .function && env.kindOf n == some .cell) = true
      · rw [if_pos hc]; exact .inl (by simp only [List.lookup_cons, hx])
      · rw [if_neg hc]; exact .inr (by simp only [List.lookup_cons, hx])
    | false =>
      simp only [List.lookup_cons, hx] at h
      by_cases hc : (q == NameKind.free && env.scope.kind == .function && env.kindOf n == some .cell) = true
      · rw [if_pos hc]; simp only [List.lookup_cons, hx]; exact ih h
      · rw [if_neg hc]; simp only [List.lookup_cons, hx]; exact ih h
def PIf (X : Cx) (ifs : List Expr) (t : TT) : Prop :=
  ∀ (pins : List (Addr × Obj)) (s : Shared) (σ : St) (H : Hp) (Q : Bool -> Hp -> Prop), Inv X pins σ H s -> t σ H Q ->
    wpAny (model X.prog X.w) X.A (forIn ifs true fun c r => if r = true then do let ok <- isTrue c X.env (eval c X.env); pure (ForInStep.yield ok) else pure (ForInStep.yield r)) (TP X pins σ Q) X.xe s
def tYes : TT := fun _ H Q => Q true H
theorem pif_nil {X : Cx} : PIf X [] tYes := fun _ _ _ H _ I h => wpAny_tests_nil ⟨H, I, h⟩
theorem comp_turns {prog : Program} {w : World} {A : Around} {R : Result -> Shared -> Prop} {s : Shared} {elt target iter : Expr} {ifs : List Expr} {scope : Scope} {pos : Pos} {it acc : Value} {env : Env} (J : Nat -> Shared -> Prop)
    (turn : ∀ n s0, J n s0 -> wpAny (model prog w) A (pyNext it) (fun r s1 => match r with
      | none => R (.ok .next) s1
      | some v => wpAny (model prog w) A (letOwnedTupleGo target it v) (fun _ s2 => wpAny (model prog w) A (assign target env v) (fun _ s3 =>
          wpAny (model prog w) A (forIn ifs true fun c r => if r = true then do let ok <- isTrue c env (eval c env); pure (ForInStep.yield ok) else pure (ForInStep.yield r)) (fun ok s4 =>
            if ok = true then wpAny (model prog w) A (eval elt env) (fun x s5 =>
              wpAny (model prog w) A (call (.builtin "list.append") [acc, x]) (fun _ s6 => ∃ m, m < n /\ J m s6) (fun _ _ => False) s5) (fun _ _ => False) s4
            else ∃ m, m < n /\ J m s4) (fun _ _ => False) s3) (fun _ _ => False) s2) (fun _ _ => False) s1) (fun _ _ => False) s0)
    (n : Nat) (h : J n s) : codeAny (model prog w) A (.compLoop (.ListComp elt [⟨target, iter, ifs, 0⟩] scope pos) 0 it acc env) R s := by
  have up : ∀ {α : Type} {t : Sem α} {Q Q' : α -> Shared -> Prop} {E : Value -> Shared -> Prop} {s0 : Shared}, wpAny (model prog w) A t Q (fun _ _ => False) s0 -> (∀ a s', Q a s' -> Q' a s') -> wpAny (model prog w) A t Q' E s0 :=
    fun h0 hq => wpAny_mono h0 hq fun _ _ z => z.elim
  refine codeAny_loop rfl J ?_ n h
  intro k s0 hJ
  show wpAny _ A ((compTurn (.ListComp elt [⟨target, iter, ifs, 0⟩] scope pos) 0 it acc env).onRaise (fun x => do noteFrame x env; theTreesLotGoes x)) _ _ s0
  refine wpAny_noted ?_
  rw [compTurn_list]
  refine wpAny_bind (wpAny_standAt (wpAny_bind (up (turn k s0 hJ) fun r s1 h1 => ?_)))
  cases r with
  | none => exact wpAny_pure h1
  | some v =>
    refine wpAny_bind (up h1 fun _ s2 h2 => wpAny_bind (up h2 fun _ s3 h3 => wpAny_bind (up h3 fun ok s4 h4 => ?_)))
    cases ok with
    | false => exact wpAny_pure ⟨rfl, h4⟩
    | true => exact wpAny_bind (wpAny_bind (up h4 fun x s5 h5 => wpAny_bind (up h5 fun _ s6 h6 => wpAny_pure (wpAny_pure ⟨rfl, h6⟩))))
def CompW (J : It) (js : List Nat) (tc : TT) (te : TE) (σ : St) (Q : VK) (D : Addr) (H1 : Hp) : Prop := ∃ W : Nat -> Nat -> List V -> Hp -> Prop, (∃ m, W 0 m [] (upd H1 D (.lst []))) /\
  ∀ i m acc H, W i m acc H -> H D = some (.lst acc) /\ acc.length < sizeLine /\ ((J.stop i H /\ Q (.ref D) H) \/ (J.go i H /\ ∀ x H', J.yld i H x H' -> tc (some x :: compS js σ) H' fun c H3 =>
    if c = true then te (some x :: compS js σ) H3 fun y H4 => H4 D = some (.lst acc) /\ ∃ m', m' < m /\ W (i + 1) m' (acc ++ [y]) (upd H4 D (.lst (acc ++ [y]))) else ∃ m', m' < m /\ W (i + 1) m' acc H3))
def tComp (wi : TI) (js : List Nat) (tc : TT) (te : TE) : TE := fun σ H Q => wi σ H fun J H1 => ∀ D, H1 D = none -> CompW J js tc te σ Q D H1
theorem pe_comp {X : Cx} {elt iter : Expr} {ifs : List Expr} {sc : Scope} {pos px : Pos} {t : Str} {ys : List Str} {js : List Nat} {wi : TI} {tc : TT} {te : TE} (hc : X.calm = true) (hck : compChk X.N X.env.scope sc t ys js = true)
    (hi : PI X (.Name t px) iter wi) (hf : ∀ cl C s H fp, PIf (X.comp sc cl C (t :: ys) s H fp) ifs tc) (he : ∀ cl C s H fp, PE (X.comp sc cl C (t :: ys) s H fp) elt te)
    (hs : ∀ x, foldedSetIterable iter X.env x = pure x := by intro _; rfl) : PE X (.ListComp elt [⟨.Name t px, iter, ifs, 0⟩] sc pos) (tComp wi js tc te) := by
  have ck := compOk_of hck
  intro pins s σ H Q I h
  have hfr : ∀ x, (x, NameKind.free) ∈ sc.names -> ∃ c, X.env.cells.lookup x = some c := fun x hx => I.ok.has x (.inl (ck.fre _ hx rfl))
  obtain ⟨cl, hcl, cl1, cl2⟩ := clos_ok hfr
  rw [eval_ListComp]
  refine wpAny_comprehension_free (use := none) rfl hs hcl ck.kind ck.loc (thn (hi pins s σ H _ I h) fun v s1 h1 => thn h1 fun itv s2 h2 => ?_)
  obtain ⟨it, fp, tn, J, H2, e, I2, T, st2, f2, hR⟩ := h2
  subst e
  refine wpAny_newObj_type (wpAny_newFunctionEnv ck.ncell (by intro y hy; simp at hy) (fun h1 hns hsb => ?_) ck.kind)
  dsimp only at hns hsb ⊢
  generalize hp : s2.heap.push { cls := .type "list", dict := none, data := .seq ([] : List Value).toArray } = hh at hns hsb ⊢
  have hC : hh.objs.size = s2.heap.objs.size + 1 := by rw [<- hp, Heap.size_push]
  have neD : ∀ {b : Addr}, b < s2.heap.objs.size -> b ≠ s2.heap.objs.size := fun hb => Nat.ne_of_lt hb
  have neC : ∀ {b : Addr}, b < s2.heap.objs.size -> b ≠ hh.objs.size := fun hb => by rw [hC]; exact Nat.ne_of_lt (Nat.lt_succ_of_lt hb)
  have hDC : s2.heap.objs.size ≠ hh.objs.size := by rw [hC]; exact Nat.ne_of_lt (Nat.lt_succ_self _)
  have hCle : s2.heap.objs.size <= hh.objs.size := by rw [hC]; exact Nat.le_succ _
  have old : ∀ b o, s2.heap.get? b = some o -> h1.get? b = some o := fun b o e => hsb.extBut b o (neC (Heap.lt_size e)) (Heap.get?_push_of_some _ (hp ▸ Heap.get?_push_of_some _ e))
  have hnew : h1.get? s2.heap.objs.size = some { cls := .type "list", dict := none, data := .seq ([] : List Value).toArray } := hsb.extBut _ _ hDC (Heap.get?_push_of_some _ (hp ▸ Heap.get?_push_size _ rfl))
  have fpH : ∀ b ∈ fp, ∃ o, s2.heap.get? b = some o := fun b hb => let ⟨o, e, _⟩ := T.obj 0 _ st2 b hb; ⟨o, e⟩
  have fpD : ∀ b ∈ fp, b ≠ s2.heap.objs.size := fun b hb => by obtain ⟨o, e⟩ := fpH b hb; exact neD (Heap.lt_size e)
  have fpC : ∀ b ∈ fp, b ≠ hh.objs.size := fun b hb => by obtain ⟨o, e⟩ := fpH b hb; exact neC (Heap.lt_size e)
  have fpS : ∀ b ∈ fp, b ∉ frs X.stack := fun b hb z => (List.mem_cons.mp (I2.stkSub b z)).elim (f2 b hb).2.1 (f2 b hb).2.2.1
  have hok' : (X.comp sc cl hh.objs.size (t :: ys) s2 H2 fp).Ok := by
    refine ⟨I2.ok.mod, ck.kind, I2.ok.glob, I2.ok.blt, hCle, fun x y c a b => I2.ok.inj x y c (cl1 x c a) (cl1 y c b), fun x hx => ?_, (fun x c z => nomatch z), I2.ok.hd, I2.ok.frames, .inl rfl, fun b hb => ⟨fpC b hb, fun x c a => (f2 b hb).2.2.2.2.1 x c (cl1 x c a)⟩,
      I2.bs, Nat.le_trans I2.ok.bsz I2.sz, fun b o e hb => ?_, fun b hb => fpS b hb, I2.stack, I2.stkFree⟩
    · have hx' : (sc.names.map fun (n, k) => if (k == NameKind.free && X.env.scope.kind == .function && X.env.kindOf n == some .cell) then (n, NameKind.cell) else (n, k)).lookup x = some .cell \/ (sc.names.map fun (n, k) => if (k == NameKind.free && X.env.scope.kind == .function && X.env.kindOf n == some .cell) then (n, NameKind.cell) else (n, k)).lookup x = some .free := hx
      rcases hx' with z | z
      · rcases relabel_inv z with q | ⟨_, q⟩
        · exact absurd rfl (ck.ncell _ (PySem.mem_of_lookup q))
        · exact cl2 x (PySem.mem_of_lookup q)
      · rcases relabel_inv z with q | ⟨q, _⟩
        · exact cl2 x (PySem.mem_of_lookup q)
        · cases q
    · rcases (f2 b hb).2.2.2.1 with z | z
      · exact I2.ok.noex b o e z
      · exact absurd (Nat.lt_of_lt_of_le (Heap.lt_size e) (Nat.le_trans I2.ok.bsz z)) (Nat.lt_irrefl _)
  have Iin : ∀ tk : Nat, Inv (X.comp sc cl hh.objs.size (t :: ys) s2 H2 fp) [] (none :: compS js σ) (upd H2 s2.heap.objs.size (.lst [])) { s2 with heap := h1, toks := tk } := fun tk => by
    refine ⟨hok', rfl, I2.bare, Un.laid old (Nat.le_refl _) I2.fresh, ⟨_, hns, fun i x v e1 e2 e3 => ?_⟩, fun x c e => ?_, ?_, fun x c e => ?_, fun p hp => absurd (show p ∈ ([] : List (Addr × Obj)) from hp) (by simp), I2.hok.laid old (Nat.le_refl _) ⟨Nat.zero_le _, [], 0, .nil, hnew⟩, ?_⟩
    · cases i with
      | zero => simp at e2
      | succ k =>
        have e1' : ys[k]? = some x := e1
        have e2' : (compS js σ)[k]? = some (some v) := by simpa using e2
        unfold compS at e2'
        rw [List.getElem?_map] at e2'
        have q := congrArg (fun l => l[k]?) ck.ysj
        simp only [List.getElem?_map, e1', Option.map_some] at q
        cases hj : js[k]? with
        | none => rw [hj] at q; cases q
        | some j =>
          rw [hj] at q e2'
          have q1 : X.N[j]? = some x := (Option.some.inj q).symm
          have q2 : σ[j]? = some (some v) := by
            have z : (σ[j]?).join = some v := Option.some.inj e2'
            cases hz : σ[j]? with
            | none => rw [hz] at z; cases z
            | some y => rw [hz] at z; exact congrArg some z
          have hf' := ck.ysf x (List.mem_of_getElem? e1')
          have hcell := ck.fre _ (PySem.mem_of_lookup hf') rfl
          obtain ⟨m2, hn2, hl2⟩ := I2.loc
          obtain ⟨u, ru, lk⟩ := hl2 j x v q1 q2 (.inr (.inl hcell))
          refine ⟨u, ru, ?_⟩
          rcases lk with ⟨kk, _⟩ | ⟨_, c, ec, ic⟩
          · have kk' : X.env.scope.names.lookup x = some .local := kk
            have hcell' : X.env.scope.names.lookup x = some .cell := hcell
            rw [hcell'] at kk'; cases kk'
          · obtain ⟨c', ec'⟩ := cl2 x (PySem.mem_of_lookup hf')
            have : c' = c := Option.some.inj ((cl1 x c' ec').symm.trans ec)
            subst this
            refine .inr ⟨relabel_free hf', c', ec', ?_⟩
            obtain ⟨o, ho, hd⟩ := ic
            exact ⟨o, old _ o ho, hd⟩
    · obtain ⟨v, o, ho, hd⟩ := I2.cell x c (cl1 x c e)
      exact ⟨v, o, old _ o ho, hd⟩
    · show upd H2 s2.heap.objs.size _ hh.objs.size = none
      rw [upd_ne (Ne.symm hDC)]
      exact I2.hok.fresh hCle
    · obtain ⟨v, o, ho, hd⟩ := I2.cell x c (cl1 x c e)
      rw [upd_ne (neD (Heap.lt_size ho))]
      exact I2.freeC x c (cl1 x c e)
    · show (none :: compS js σ).length = (t :: ys).length
      have q := congrArg List.length ck.ysj
      simp only [List.length_map] at q
      unfold compS
      simp only [List.length_cons, List.length_map]
      omega
  have st1 : tn 0 h1 := T.keep _ _ _ st2 fun b hb o e => old b o e
  obtain ⟨W, ⟨m0, w0⟩, turn⟩ := hR s2.heap.objs.size I2.fresh
  have fpok : ∀ {H' : Hp}, (∀ b ∈ fp, H' b = none) -> ∀ b ∈ fp, FpOk (X.comp sc cl hh.objs.size (t :: ys) s2 H2 fp) [] H' b := fun hn b hb =>
    ⟨hn b hb, fpC b hb, fpS b hb, .inl hb, fun x c a => (f2 b hb).2.2.2.2.1 x c (cl1 x c a), fun p hp => absurd (show p ∈ ([] : List (Addr × Obj)) from hp) (by simp)⟩
  have ndN : (t :: ys).Nodup := ck.nd
  have loop : ∀ s3 : Shared, s3 = { s2 with heap := h1, toks := s2.toks + ([] : List (Str × Value)).length } ->
      codeAny (model X.prog X.w) X.A (.compLoop (.ListComp elt [⟨.Name t px, iter, ifs, 0⟩] sc pos) 0 (.ref it) (.ref s2.heap.objs.size) (compEnvC sc cl hh.objs.size X.env))
        (compPost (model X.prog X.w) X.A X.xe none (EP X pins σ Q) (.ref s2.heap.objs.size) hh.objs.size) s3 := by
    rintro s3 rfl
    refine comp_turns (fun n s' => ∃ i acc H', Inv (X.comp sc cl hh.objs.size (t :: ys) s2 H2 fp) [] (none :: compS js σ) H' s' /\ tn i s'.heap /\ (∀ b ∈ fp, H' b = none) /\ W i n acc H') ?_ m0
      ⟨0, [], _, Iin _, st1, fun b hb => by rw [upd_ne (fpD b hb)]; exact (f2 b hb).1, w0⟩
    rintro n s3 ⟨i, acc, H3, I3, st3, fr3, w3⟩
    obtain ⟨hD, hz, alt⟩ := turn i n acc H3 w3
    rcases alt with ⟨stop, q⟩ | ⟨go, step⟩
    · refine thn (T.done (X.comp sc cl hh.objs.size (t :: ys) s2 H2 fp) rfl rfl rfl hc i [] s3 _ H3 _ I3 (fpok fr3) st3 stop) fun r s4 ⟨hr, I4⟩ => ?_
      subst hr
      obtain ⟨m, hn, _⟩ := id I4.loc
      refine ⟨m, hn, fun h' sb => ⟨.ref s2.heap.objs.size, H3, ?_, rfl, q⟩⟩
      have ltC : ∀ b o, s2.heap.get? b = some o -> b ≠ hh.objs.size := fun b o e => neC (Heap.lt_size e)
      have b4 : Un (frs X.stack) fp H2 H3 s2.heap s4.heap := I4.base
      refine I2.call' (s' := { s4 with heap := h' }) (ch := fp) I4.os ⟨fun b o e n1 n2 n3 => (sb.2 b (ltC b o e)).trans (b4.keep b o e n1 n2 n3), fun b o e n1 n2 n3 => ?_, b4.free, fun b o e n1 => ?_, b4.tups, b4.frzs, b4.tbls⟩ (fun b ob e => ?_) I4.bare
        (fun b hb => ⟨(f2 b hb).2.2.2.1, (f2 b hb).2.1, (f2 b hb).2.2.2.2.1, (f2 b hb).2.2.2.2.2⟩)
      · obtain ⟨sl, e1⟩ := b4.slot b o e n1 n2 n3
        exact ⟨sl, (sb.2 b (ltC b o e)).trans e1⟩
      · obtain ⟨o', e1⟩ := b4.there b o e n1
        exact ⟨o', (sb.2 b (ltC b o e)).trans e1⟩
      · have hfree : H3 hh.objs.size = none := I4.free
        refine (I4.hok b ob e).stay (fun c w' hc' q' => (sb.2 c ?_).trans q') (fun _ q' => q') fun _ _ q' => q'
        rintro rfl
        rcases hc' with rfl | hc'
        · rw [hfree] at e; cases e
        · rw [hfree] at hc'; cases hc'
    · refine thn (T.item (X.comp sc cl hh.objs.size (t :: ys) s2 H2 fp) rfl rfl rfl hc i [] s3 _ H3 _ I3 (fpok fr3) st3 go) fun r s4 ⟨u, hr, h4⟩ => ?_
      subst hr
      refine thn h4 fun _ s5 ⟨x, H5, I5, r5, y5, st5, fr5⟩ => ?_
      have I5' := I5.pinned (fpok fr5) (T.obj _ _ st5)
      refine wpAny_assign_Name (store_ok (i := 0) I5' ndN rfl (.inl (lookup_relabel_local ck.tl)) r5 (fun s6 I6 => ?_) (.inr (lookup_relabel_local ck.tl)))
      have again : ∀ {H7 : Hp} {s7 : Shared} {m' : Nat} {acc' : List V}, Inv (X.comp sc cl hh.objs.size (t :: ys) s2 H2 fp) ([] ++ pinsAt fp s5.heap) (some x :: compS js σ) H7 s7 -> m' < n -> W (i + 1) m' acc' H7 ->
          ∃ m, m < n /\ ∃ i acc H', Inv (X.comp sc cl hh.objs.size (t :: ys) s2 H2 fp) [] (none :: compS js σ) H' s7 /\ tn i s7.heap /\ (∀ b ∈ fp, H' b = none) /\ W i m acc H' := fun {H7 s7 m' acc'} I7 hm w7 => by
        refine ⟨m', hm, i + 1, acc', H7, (I7.unpinned).weak rfl (fun k v e => ?_), T.keep _ _ _ st5 fun b hb o e => (I7.pin (b, o) (List.mem_append_right _ (List.mem_append_right _ (mem_pinsAt hb e)))).1, fun b hb => ?_, w7⟩
        · cases k with
          | zero => simp at e
          | succ k => simpa using e
        · obtain ⟨o, e, d⟩ := T.obj _ _ st5 b hb
          exact (I7.pin (b, o) (List.mem_append_right _ (List.mem_append_right _ (mem_pinsAt hb e)))).2.1
      refine thn (hf _ _ _ _ _ _ s6 _ H5 _ I6 (step x H5 y5)) fun ok s7 ⟨H7, I7, q7⟩ => ?_
      cases ok with
      | false =>
        obtain ⟨m', hm, w7⟩ := q7
        exact again I7 hm w7
      | true =>
        refine thn (he _ _ _ _ _ _ s7 _ H7 _ I7 q7) fun uy s8 ⟨y, H8, I8, r8, hD8, m', hm, w8⟩ => ?_
        refine thn (mt_append (X := X.comp sc cl hh.objs.size (t :: ys) s2 H2 fp) _ s8 _ H8 (.ref s2.heap.objs.size) [y] (.ref s2.heap.objs.size) [uy] (fun _ H9 => W (i + 1) m' (acc ++ [y]) H9) I8 rfl (.cons r8 .nil) ⟨_, acc, y, rfl, rfl, hD8, hz, w8⟩) fun _ s9 ⟨_, H9, I9, _, q9⟩ => ?_
        exact again I9 hm q9
  exact codeAny_compStart_list (loop _ rfl) (T.self _ 0 _ _ _ st1 (loop _ rfl))
theorem cstep {n i m : Nat} {A B : Prop} (hi : i < n) (hm : m = n - i) (a : A) (b : B) : A /\ ∃ m', m' < m /\ (m' = n - (i + 1) /\ i + 1 <= n /\ B) := ⟨a, n - (i + 1), by omega, rfl, hi, b⟩
theorem comp_rng {lo : Int} {n : Nat} {js : List Nat} {te : TE} {σ : St} {Q : VK} {D : Addr} {H1 : Hp} (Pv : Nat -> List V -> Hp -> Prop) (hz : n < sizeLine) (h0 : Pv 0 [] (upd H1 D (.lst [])))
    (hl : ∀ i acc H, Pv i acc H -> H D = some (.lst acc) /\ acc.length = i)
    (hs : ∀ i m acc H, i < n -> Pv i acc H -> m = n - i -> te (some (.int (lo + i)) :: compS js σ) H fun y H4 => H4 D = some (.lst acc) /\ ∃ m', m' < m /\ (m' = n - (i + 1) /\ i + 1 <= n /\ Pv (i + 1) (acc ++ [y]) (upd H4 D (.lst (acc ++ [y])))))
    (hd : ∀ acc H, Pv n acc H -> Q (.ref D) H) : CompW (Itr lo n) js tYes te σ Q D H1 := by
  refine ⟨fun i m acc H => m = n - i /\ i <= n /\ Pv i acc H, ⟨n, by simp, Nat.zero_le _, h0⟩, ?_⟩
  rintro i m acc H ⟨hm, hi, p⟩
  obtain ⟨hD, hlen⟩ := hl i acc H p
  refine ⟨hD, by omega, ?_⟩
  by_cases hlt : i < n
  · refine .inr ⟨hlt, fun x H' y => ?_⟩
    obtain ⟨e, y⟩ := y
    subst e y
    unfold tYes
    dsimp only
    rw [if_pos rfl]
    exact hs i m acc _ hlt p hm
  · have e : i = n := by omega
    subst e
    exact .inl ⟨Nat.le_refl _, hd acc H p⟩
theorem comp_lst {K : PySem.W.Frag} {a : Addr} {xs : List V} {js : List Nat} {te : TE} {σ : St} {Q : VK} {D : Addr} {H1 : Hp} (Pv : Nat -> List V -> Hp -> Prop) (hz : xs.length < sizeLine) (h0 : Pv 0 [] (upd H1 D (.lst [])))
    (hl : ∀ i acc H, Pv i acc H -> H D = some (.lst acc) /\ acc.length = i /\ SqL K H a xs)
    (hs : ∀ i m x acc H, xs[i]? = some x -> Pv i acc H -> m = xs.length - i -> te (some x :: compS js σ) H fun y H4 => H4 D = some (.lst acc) /\ ∃ m', m' < m /\ (m' = xs.length - (i + 1) /\ i + 1 <= xs.length /\ Pv (i + 1) (acc ++ [y]) (upd H4 D (.lst (acc ++ [y])))))
    (hd : ∀ acc H, Pv xs.length acc H -> Q (.ref D) H) : CompW (Itl K a) js tYes te σ Q D H1 := by
  refine ⟨fun i m acc H => m = xs.length - i /\ i <= xs.length /\ Pv i acc H, ⟨xs.length, by simp, Nat.zero_le _, h0⟩, ?_⟩
  rintro i m acc H ⟨hm, hi, p⟩
  obtain ⟨hD, hlen, hq⟩ := hl i acc H p
  refine ⟨hD, by omega, ?_⟩
  by_cases hlt : i < xs.length
  · refine .inr ⟨⟨xs, xs[i], hq, by simp [hlt]⟩, fun x H' y => ?_⟩
    obtain ⟨e, y⟩ := y
    subst e
    unfold tYes
    dsimp only
    rw [if_pos rfl]
    exact hs i m x acc _ (y xs hq) p hm
  · have e : i = xs.length := by omega
    subst e
    exact .inl ⟨⟨xs, hq, Nat.le_refl _⟩, hd acc H p⟩
end L2
namespace L2
open PySem PySem.Spec PyProof.Rows
section
variable {X : Cx}
theorem same_new {H : Hp} {p : Addr} (h : H p = none) (o : HO) : Same H (upd H p o) := fun b u q => by rw [upd_ne (ne_of_none q h)]; exact q
end
end L2
namespace L2
open PySem PySem.Spec PyProof.Rows
section
variable {X : Cx}
theorem call_isinst : CallR X (.builtin "isinstance") (fun xs H Q => ∃ x T t b, xs = [x, .ty T] /\ TyOf X.K H x t /\ PySem.W.kitOne X.K t (.type T) = some b /\ Q (.bl b) H) := by
  intro pins s σ H xs us Q I r h
  obtain ⟨x, T, t, b, rfl, ty, e, q⟩ := h
  obtain ⟨u, w, rfl, ru, rw'⟩ := vals2 r
  cases rw'
  exact isinst_ok I ru ty e fun tk => ⟨.bl b, H, I.tok tk, rfl, q⟩
end
end L2
namespace L2
open PySem PySem.Spec PyProof.Rows
section
variable {X : Cx} {es : List Expr} {te : TE} {t : TA} {env : Env}
theorem starT {a : List Expr} {k : Nat} {p : Pos} : starEach (.Tuple a k p :: es) env = (false, eval (.Tuple a k p) env) :: starEach es env := by first | rfl | (rw [starEach]; intro _ _ z; cases z)
theorem paT {a : List Expr} {k : Nat} {p : Pos} (ha : PE X (.Tuple a k p) te) (hr : PA X es t) : PA X (.Tuple a k p :: es) (tCons te t) := pa_cons ha hr starT
theorem starC {c : Const} {k : Nat} {p : Pos} : starEach (.Constant c k p :: es) env = (false, eval (.Constant c k p) env) :: starEach es env := by first | rfl | (rw [starEach]; intro _ _ z; cases z)
theorem paC {c : Const} {k : Nat} {p : Pos} (ha : PE X (.Constant c k p) te) (hr : PA X es t) : PA X (.Constant c k p :: es) (tCons te t) := pa_cons ha hr starC
theorem starN {x : Str} {p : Pos} : starEach (.Name x p :: es) env = (false, eval (.Name x p) env) :: starEach es env := by first | rfl | (rw [starEach]; intro _ _ z; cases z)
theorem paN {x : Str} {p : Pos} (ha : PE X (.Name x p) te) (hr : PA X es t) : PA X (.Name x p :: es) (tCons te t) := pa_cons ha hr starN
theorem starB {l r : Expr} {o : Operator} {p : Pos} : starEach (.BinOp l o r p :: es) env = (false, eval (.BinOp l o r p) env) :: starEach es env := by first | rfl | (rw [starEach]; intro _ _ z; cases z)
theorem paB {l r : Expr} {o : Operator} {p : Pos} (ha : PE X (.BinOp l o r p) te) (hr : PA X es t) : PA X (.BinOp l o r p :: es) (tCons te t) := pa_cons ha hr starB
theorem starS {v i : Expr} {p : Pos} : starEach (.Subscript v i p :: es) env = (false, eval (.Subscript v i p) env) :: starEach es env := by first | rfl | (rw [starEach]; intro _ _ z; cases z)
theorem paS {v i : Expr} {p : Pos} (ha : PE X (.Subscript v i p) te) (hr : PA X es t) : PA X (.Subscript v i p :: es) (tCons te t) := pa_cons ha hr starS
theorem starK {f : Expr} {a : List Expr} {k : List Keyword} {p : Pos} : starEach (.Call f a k p :: es) env = (false, eval (.Call f a k p) env) :: starEach es env := by first | rfl | (rw [starEach]; intro _ _ z; cases z)
theorem paK {f : Expr} {a : List Expr} {k : List Keyword} {p : Pos} (ha : PE X (.Call f a k p) te) (hr : PA X es t) : PA X (.Call f a k p :: es) (tCons te t) := pa_cons ha hr starK
theorem starE {e : Expr} {g : List Comprehension} {s : Scope} {p : Pos} : starEach (.ListComp e g s p :: es) env = (false, eval (.ListComp e g s p) env) :: starEach es env := by first | rfl | (rw [starEach]; intro _ _ z; cases z)
theorem paE {e : Expr} {g : List Comprehension} {s : Scope} {p : Pos} (ha : PE X (.ListComp e g s p) te) (hr : PA X es t) : PA X (.ListComp e g s p :: es) (tCons te t) := pa_cons ha hr starE
theorem starD {a : List (Option Expr)} {v : List Expr} {p : Pos} : starEach (.Dict a v p :: es) env = (false, eval (.Dict a v p) env) :: starEach es env := by first | rfl | (rw [starEach]; intro _ _ z; cases z)
theorem paD {a : List (Option Expr)} {v : List Expr} {p : Pos} (ha : PE X (.Dict a v p) te) (hr : PA X es t) : PA X (.Dict a v p :: es) (tCons te t) := pa_cons ha hr starD
end
end L2
namespace L2
open PySem PySem.Spec PyProof.Rows
theorem iteY {c : Bool} {A B : Prop} (h : c = true) (q : A) : if c = true then A else B := by rw [if_pos h]; exact q
theorem iteN {c : Bool} {A B : Prop} (h : c = false) (q : B) : if c = true then A else B := by rw [if_neg (by rw [h]; decide)]; exact q
theorem iteYd {p : Prop} [Decidable p] {A B : Prop} (h : p) (q : A) : if decide p = true then A else B := by rw [if_pos (decide_eq_true h)]; exact q
theorem iteNd {p : Prop} [Decidable p] {A B : Prop} (h : ¬ p) (q : B) : if decide p = true then A else B := by rw [if_neg (by rw [decide_eq_false h]; decide)]; exact q
theorem iteDd {p : Prop} [Decidable p] {A B : Prop} (h1 : p -> A) (h2 : ¬ p -> B) : if decide p = true then A else B := by
  by_cases h : p
  · exact iteYd h (h1 h)
  · exact iteNd h (h2 h)
section
variable {K : PySem.W.Frag}
theorem k_ss : PySem.W.kitOne K (.type "str") (.type "str") = some true := by with_unfolding_all rfl
theorem k_is' : PySem.W.kitOne K (.type "int") (.type "str") = some false := by with_unfolding_all rfl
theorem k_tt : PySem.W.kitOne K (.type "tuple") (.type "tuple") = some true := by with_unfolding_all rfl
theorem k_it : PySem.W.kitOne K (.type "int") (.type "tuple") = some false := by with_unfolding_all rfl
theorem k_ii : PySem.W.kitOne K (.type "int") (.type "int") = some true := by with_unfolding_all rfl
theorem k_ib : PySem.W.kitOne K (.type "int") (.type "bool") = some false := by with_unfolding_all rfl
theorem isds_nil {H : Hp} : Isds K H [] [] := by unfold Isds; rfl
end
theorem fits2 {n : Nat} (h : n <= 100000) : n <= sizeLine := Nat.le_trans h (by decide)
theorem fitsL {n : Nat} (h : n <= 100000) : n < sizeLine := Nat.lt_of_le_of_lt h (by decide)
theorem same_upd {H H' : Hp} {D : Addr} {o : HO} (hn : H D = none) (s : Same H H') : Same H (upd H' D o) := fun b u q => by rw [upd_ne (ne_of_none q hn)]; exact s b u q
end L2
namespace L2
open PySem PySem.Spec PyProof.Rows
section
variable {X : Cx}
theorem ints_items {its : List Value} {ns : List Int} (hi : IntsAre its ns) : ∃ xs : Array (Int × Tok), its.toArray = intItems xs /\ ns = xs.toList.map (·.1) := by
  obtain ⟨xs, e⟩ := hi.allInts.items
  exact ⟨xs, e, by rw [<- hi.numsOf, <- nums_intItems, <- e]⟩
theorem call_sum (hc : X.calm = true) : CallR X (.builtin "sum") (fun xs H Q => ∃ (p : Addr) (ns : List Int), xs = [.ref p] /\ SqL X.K H p (ns.map V.int) /\ Q (.int ns.sum) H) := by
  intro pins s σ H xs us Q I r h
  obtain ⟨p, ns, rfl, hq, q⟩ := h
  obtain ⟨u, rfl, ru⟩ := vals1 r
  cases ru
  obtain ⟨its, rv, pl, _⟩ := I.list hq
  obtain ⟨xs, e, hns⟩ := ints_items (intsAre_of rv)
  have hl := pl.isList
  rw [e] at hl
  refine sum_intListG (I.ok.hd hc) hl fun h' tk t' hk => ⟨.int _, H, I.kept hk, ⟨t', rfl⟩, ?_⟩
  rw [preSum_eq, List.take_of_length_le (by simp), <- hns]
  exact q
end
section
variable {prog : Program} {w : World} {A : Around} {R : Result -> Shared -> Prop} {I S l : Addr} {d : Value} {xs : Array (Int × Tok)}
end
section
variable {X : Cx}
theorem op_rep_str : OpR X (binaryOp .Mult) (fun x y H Q => ∃ z n, x = .str z /\ y = .int n /\ z.length <= 1000 /\ n <= 1000 /\ -1000 <= n /\ Q (.str (Txt.mul z n)) H) := by
  intro pins s σ H x y v u Q I rx ry h
  obtain ⟨z, n, rfl, rfl, h1, h2, h3, q⟩ := h
  obtain ⟨t, rfl⟩ := rx
  obtain ⟨t', rfl⟩ := ry
  refine SB.mul ⟨?_, fun hn _ => ?_, fun hn _ => ?_⟩ fun t' k => ⟨.str _, H, I.tok k, ⟨t', rfl⟩, q⟩
  · rw [decide_eq_false (by omega), decide_eq_false (by omega)]
    rfl
  · have e : (1000 : Int) <= (2 ^ 63 - 1) / n := Int.le_ediv_of_mul_le (by omega) (by omega)
    omega
  · have hle : z.length * n.toNat <= 1000 * 1000 := Nat.mul_le_mul h1 (by omega)
    unfold PySem.Builtin.Str.tooLong
    simp only [decide_eq_false_iff_not]
    rw [sizeLine_eq]
    omega
theorem op_eqNil (hu : X.A.units + 64 < cLine) : OpR X (compareOp .Eq) (fun x y H Q => ∃ a b xs, x = .ref a /\ y = .ref b /\ SqL X.K H a xs /\ SqL X.K H b [] /\ Q (.bl (decide (xs = []))) H) := by
  intro pins s σ H x y v u Q I rx ry h
  obtain ⟨a, b, xs, e1, e2, ha, hb, q⟩ := h
  by_cases hx : xs = []
  · subst hx
    refine op_eqD hu pins s σ H x y v u Q I rx ry ⟨a, b, [], [], [], [], e1, e2, .inr ⟨ha, hb⟩, isds_nil, isds_nil, by unfold depDs; omega, ?_⟩
    have e : id (eqDs [] []) = decide (([] : List V) = []) := by unfold eqDs; rfl
    rw [e]
    exact q
  · subst e1 e2
    cases rx
    cases ry
    obtain ⟨us, r1, p1, _⟩ := I.list ha
    obtain ⟨ws, r2, p2, _⟩ := I.list hb
    cases r2
    have hne : us ≠ [] := fun z => hx ((Vals.nil_iff r1).mp z)
    refine SeqAt.eq_list_lengthsAt p1.isList p2.isList (by simpa using hne) (by omega) ⟨.bl _, H, I, ?_, q⟩
    rw [decide_eq_false hx]
    rfl
noncomputable def eqAny (K : PySem.W.Frag) (H : Hp) (d : Da) (u : Value) : Bool := @decide (∃ e v, RelV v u /\ Isd K H e v /\ eqD e d = true) (Classical.propDecidable _)
theorem any_items {pins : List (Addr × Obj)} {s : Shared} {σ : St} {H : Hp} (I : Inv X pins σ H s) (d : Da) : ∀ {ds : List Da} {xs : List V} {us : List Value}, Isds X.K H ds xs -> Vals xs us ->
    (∀ u ∈ us, ∃ e v, RelV v u /\ Isd X.K H e v /\ e ∈ ds /\ eqAny X.K H d u = eqD e d) /\ us.any (eqAny X.K H d) = ds.any (fun e => eqD e d)
  | [], xs, us, h, r => by
    unfold Isds at h
    subst h
    cases r
    exact ⟨(fun u hu => nomatch hu), rfl⟩
  | e :: ds, xs, us, h, r => by
    unfold Isds at h
    obtain ⟨v, vs, rfl, he, hs⟩ := h
    cases r with
    | cons r1 r2 =>
      rename_i u us'
      obtain ⟨ih1, ih2⟩ := any_items I d hs r2
      have ee : eqAny X.K H d u = eqD e d := by
        unfold eqAny
        cases hb : eqD e d with
        | true => exact @decide_eq_true _ (Classical.propDecidable _) ⟨e, v, r1, he, hb⟩
        | false =>
          refine @decide_eq_false _ (Classical.propDecidable _) ?_
          rintro ⟨e', v', r', he', hb'⟩
          have : v' = v := r'.inj r1
          subst this
          have : e' = e := Isd.inj I e' e he' he
          subst this
          rw [hb] at hb'
          cases hb'
      refine ⟨fun u' hu => ?_, by rw [List.any_cons, List.any_cons, ee, ih2]⟩
      rcases List.mem_cons.mp hu with rfl | hu
      · exact ⟨e, v, r1, he, List.mem_cons_self, ee⟩
      · obtain ⟨e', v', a, b, c, q⟩ := ih1 u' hu
        exact ⟨e', v', a, b, List.mem_cons_of_mem _ c, q⟩
theorem dep_mem {ds : List Da} {e : Da} (h : e ∈ ds) : depD e <= depDs ds := by
  obtain ⟨i, hi, rfl⟩ := List.mem_iff_getElem.mp h
  exact depD_mem (j := i) (List.getElem?_eq_getElem hi)
def rInD (K : PySem.W.Frag) (f : Bool -> Bool) : R2 := fun x y H Q => ∃ p xs d ds, y = .ref p /\ SqL K H p xs /\ Isd K H d x /\ Isds K H ds xs /\ depDs ds <= 50 /\ Q (.bl (f (ds.any fun e => eqD e d))) H
theorem op_notInD (hu : X.A.units + 64 < cLine) : OpR X (compareOp .NotIn) (rInD X.K not) := by
  intro pins s σ H x y v u Q I rx ry h
  obtain ⟨p, xs, d, ds, rfl, hq, hd, hs, hz, q⟩ := h
  cases ry
  obtain ⟨us, r1, p1, _⟩ := I.list hq
  obtain ⟨a1, a2⟩ := any_items I d hs r1
  refine SeqAt.notIn_listAt (eqAny X.K H d) p1.isList (fun w hw => ?_) ⟨.bl _, H, I, ?_, q⟩
  · obtain ⟨e, z, r, he, hm, ee⟩ := a1 w (by simpa using hw)
    rw [ee]
    exact eqAt_D I 50 e d (Nat.le_trans (dep_mem hm) hz) he hd r rx (by show X.A.units + 1 + 50 < cLine; omega)
  · show Value.bool _ = _
    rw [<- a2]
    simp
end
end L2
namespace L2
open PySem PySem.Spec PyProof.Rows
section
variable {X : Cx} {K : PySem.W.Frag}
end
theorem take_snoc {α : Type} {xs : List α} {i : Nat} {x : α} (h : xs[i]? = some x) : xs.take (i + 1) = xs.take i ++ [x] := by
  rw [List.take_add_one, h]
  rfl
theorem lt_of_some {α : Type} {xs : List α} {i : Nat} {x : α} (h : xs[i]? = some x) : i < xs.length := (List.getElem?_eq_some_iff.mp h).1
theorem some_of_lt {α : Type} {xs : List α} {i : Nat} (h : i < xs.length) : ∃ x, xs[i]? = some x := ⟨_, List.getElem?_eq_getElem h⟩
section
variable {K : PySem.W.Frag} {a : Addr} {xs ys : List V} {js : List Nat} {tc : TT} {te : TE} {σ : St} {Q : VK} {D : Addr} {H1 : Hp}
theorem comp_lstM (hz : xs.length < sizeLine) (hlen : ys.length = xs.length) (ha : SqL K H1 a xs) (hD : H1 D = none)
    (he : ∀ (i : Nat) (x y : V) (H : Hp), xs[i]? = some x -> ys[i]? = some y -> Same H1 H -> ∀ Q' : VK, (∀ H', Same H H' -> Q' y H') -> te (some x :: compS js σ) H Q')
    (hq : ∀ H', Same H1 H' -> H' D = some (.lst ys) -> Q (.ref D) H') : CompW (Itl K a) js tYes te σ Q D H1 := by
  refine comp_lst (K := K) (a := a) (xs := xs) (fun i acc H => i <= xs.length /\ acc = ys.take i /\ Same H1 H /\ H D = some (.lst acc)) hz ⟨Nat.zero_le _, rfl, same_new hD _, upd_same⟩ (fun i acc H ⟨l, e, s, d⟩ => ⟨d, ?_, Same.seq s ha⟩) ?_ ?_
  · rw [e, List.length_take]
    omega
  · rintro i m x acc H hi ⟨l, e, s, d⟩ hm
    have hlt := lt_of_some hi
    obtain ⟨y, hy⟩ := some_of_lt (xs := ys) (i := i) (by omega)
    exact he i x y H hi hy s _ fun H' s' => cstep hlt hm (s' _ _ d) ⟨hlt, by rw [e, take_snoc hy], same_upd hD (s.trans s'), upd_same⟩
  · rintro acc H ⟨l, e, s, d⟩
    rw [List.take_of_length_le (by omega)] at e
    exact hq H s (by rw [d, e])
end
theorem cut_take {xs : List V} {k : Nat} (h : k <= xs.length) : cutV xs none (some (k : Int)) = xs.take k := by
  unfold cutV
  rw [HT.sIx_none, HT.sIx_nat, Nat.min_eq_left h]
  simp
theorem cut_drop {xs : List V} {k : Nat} (h : k <= xs.length) : cutV xs (some (k : Int)) none = xs.drop k := by
  unfold cutV
  rw [HT.sIx_none, HT.sIx_nat, Nat.min_eq_left h]
  rw [List.take_of_length_le (by rw [List.length_drop]; omega)]
theorem cut_take' (xs : List V) (k : Nat) : cutV xs none (some (k : Int)) = xs.take k := by
  by_cases h : k <= xs.length
  · exact cut_take h
  · unfold cutV
    rw [HT.sIx_none, HT.sIx_nat, Nat.min_eq_right (by omega), List.drop_zero, Nat.sub_zero, List.take_of_length_le (Nat.le_refl _), List.take_of_length_le (by omega)]
theorem cut_drop' (xs : List V) (k : Nat) : cutV xs (some (k : Int)) none = xs.drop k := by
  by_cases h : k <= xs.length
  · exact cut_drop h
  · unfold cutV
    rw [HT.sIx_none, HT.sIx_nat, Nat.min_eq_right (by omega), List.drop_of_length_le (Nat.le_refl _), List.drop_of_length_le (by omega)]
    exact List.take_nil
theorem atI_in {α : Type} {xs : List α} {i : Int} (h0 : 0 <= i) (h1 : i < xs.length) : ∃ x, atI xs i = some x /\ x ∈ xs := by
  obtain ⟨k, rfl⟩ := Int.eq_ofNat_of_zero_le h0
  have hk : k < xs.length := by omega
  exact ⟨xs[k], atI_nat (List.getElem?_eq_getElem hk), List.getElem_mem hk⟩
end L2
namespace L2
open PySem PySem.Spec PyProof.Rows
structure QE (X : Cx) (e : Expr) (t : TE) : Prop where
  h : PE X e t
structure QA (X : Cx) (es : List Expr) (t : TA) : Prop where
  h : PA X es t
structure QS (X : Cx) (st : Stmt) (t : TS) : Prop where
  h : PS X st t
structure QSs (X : Cx) (b : List Stmt) (t : TS) : Prop where
  h : PSs X b t
structure QT (X : Cx) (e : Expr) (t : TT) : Prop where
  h : PT X e t
structure QW (X : Cx) (e : Expr) (t : TT) : Prop where
  h : PW X e t
structure QI (X : Cx) (tg iter : Expr) (t : TI) : Prop where
  h : PI X tg iter t
structure QG (X : Cx) (tg : Expr) (t : TG) : Prop where
  h : PG X tg t
structure QGs (X : Cx) (ts : List Expr) (t : TGs) : Prop where
  h : PGs X ts t
structure QO (X : Cx) (e : Option Expr) (t : TO) : Prop where
  h : PO X e t
structure QIf (X : Cx) (ifs : List Expr) (t : TT) : Prop where
  h : PIf X ifs t
theorem qss_cons {X : L2.Cx} {st : PySem.Stmt} {rest : List PySem.Stmt} {t : L2.TS} {u : L2.TS} (h1 : QS X st t) (h2 : QSs X rest u) : QSs X (st :: rest) (L2.tSeq t u) := ⟨@L2.pss_cons _ _ _ _ _ h1.h h2.h⟩
theorem qss_one {X : L2.Cx} {st : PySem.Stmt} {t : L2.TS} (h1 : QS X st t) : QSs X [st] t := ⟨@L2.pss_one _ _ _ h1.h⟩
theorem qs_set {X : L2.Cx} {pos : PySem.Pos} {i : Nat} {x : PySem.Str} {e : PySem.Expr} {te : L2.TE} {pos' : PySem.Pos} (hN : List.Nodup (L2.Cx.N X)) (hi : (L2.Cx.N X)[i]? = Option.some x) (hx : L2.Loc (PySem.Env.scope (L2.Cx.env X)) x) (he : QE X e te) (hs : PySem.swapsWith e (Option.some (PySem.Expr.Name x pos')) (PySem.Pos.line pos) (L2.Cx.env X) = Pure.pure Bool.false := by rfl) (hf : L2.Cx.fn X x = Bool.true \/ List.lookup x (PySem.Scope.names (PySem.Env.scope (L2.Cx.env X))) = Option.some PySem.NameKind.local := by first | exact .inl rfl | exact .inr rfl | assumption) : QS X (PySem.Stmt.Assign [PySem.Expr.Name x pos'] e pos) (L2.tAsg te (L2.gName i)) := ⟨@L2.ps_set _ _ _ _ _ _ _ hN hi hx he.h hs hf⟩
theorem qs_expr {X : L2.Cx} {e : PySem.Expr} {te : L2.TE} {pos : PySem.Pos} (he : QE X e te) (hs : PySem.swapsWith e Option.none (PySem.Pos.line pos) (L2.Cx.env X) = Pure.pure Bool.false := by rfl) : QS X (PySem.Stmt.Expr e pos) (L2.tDrop te) := ⟨@L2.ps_expr _ _ _ _ he.h hs⟩
theorem qs_ret {X : L2.Cx} {e : PySem.Expr} {te : L2.TE} {pos : PySem.Pos} (he : QE X e te) : QS X (PySem.Stmt.Return (Option.some e) pos) (L2.tRet te) := ⟨@L2.ps_ret _ _ _ _ he.h⟩
theorem qs_if {X : L2.Cx} {t : L2.TS} {u : L2.TS} {pos : PySem.Pos} {c : PySem.Expr} {a : List PySem.Stmt} {b : List PySem.Stmt} {tc : L2.TT} (hc : QT X c tc) (ha : QSs X a t) (hb : QSs X b u) : QS X (PySem.Stmt.If c a b pos) (L2.tIfS tc t u) := ⟨@L2.ps_if _ _ _ _ _ _ _ _ hc.h ha.h hb.h⟩
theorem qs_for {X : L2.Cx} {tg : PySem.Expr} {iter : PySem.Expr} {body : List PySem.Stmt} {wi : L2.TI} {g : L2.TG} {tb : L2.TS} {pos : PySem.Pos} (hp : PySem.PassesOwn (PySem.model (L2.Cx.prog X) (L2.Cx.w X)) (L2.Cx.A X) (L2.Cx.env X) (L2.Cx.xe X)) (hc : L2.Cx.calm X = Bool.true) (hi : QI X tg iter wi) (hg : QG X tg g) (hb : QSs X body tb) (hs : ∀ (x : PySem.Value), PySem.foldedSetIterable iter (L2.Cx.env X) x = Pure.pure x := by intro _; rfl) : QS X (PySem.Stmt.For tg iter body [] pos) (L2.tFor wi g tb) := ⟨@L2.ps_for _ _ _ _ _ _ _ _ hp hc hi.h hg.h hb.h hs⟩
theorem qs_while {X : L2.Cx} {pos : PySem.Pos} {c : PySem.Expr} {body : List PySem.Stmt} {tc : L2.TT} {tb : L2.TS} (hp : PySem.PassesOwn (PySem.model (L2.Cx.prog X) (L2.Cx.w X)) (L2.Cx.A X) (L2.Cx.env X) (L2.Cx.xe X)) (hc : QT X c tc) (hb : QSs X body tb) : QS X (PySem.Stmt.While c body [] pos) (L2.tWhile tc tb) := ⟨@L2.ps_while _ _ _ _ _ _ hp hc.h hb.h⟩
theorem qe_op {X : L2.Cx} {a : PySem.Expr} {b : PySem.Expr} {ta : L2.TE} {tb : L2.TE} {pos : PySem.Pos} {op : PySem.Operator} {r : L2.R2} (ho : L2.OpR X (PySem.binaryOp op) r) (ha : QE X a ta) (hb : QE X b tb) : QE X (PySem.Expr.BinOp a op b pos) (L2.tOp r ta tb) := ⟨@L2.pe_op _ _ _ _ _ _ _ _ ho ha.h hb.h⟩
theorem qe_un {X : L2.Cx} {a : PySem.Expr} {ta : L2.TE} {pos : PySem.Pos} {op : PySem.UnaryOp} {r : L2.V -> L2.Hp -> L2.VK -> Prop} (ho : L2.UnR X (PySem.unaryOp op) r) (ha : QE X a ta) : QE X (PySem.Expr.UnaryOp op a pos) (L2.tUn r ta) := ⟨@L2.pe_un _ _ _ _ _ _ ho ha.h⟩
theorem qe_not {X : L2.Cx} {a : PySem.Expr} {ta : L2.TE} {pos : PySem.Pos} (ha : QE X a ta) : QE X (PySem.Expr.UnaryOp PySem.UnaryOp.Not a pos) (L2.tNotV ta) := ⟨@L2.pe_not _ _ _ _ ha.h⟩
theorem qe_one {X : L2.Cx} {a : PySem.Expr} {pos : PySem.Pos} {op : PySem.BoolOp} {t : L2.TE} (h : QE X a t) : QE X (PySem.Expr.BoolOp op [a] pos) t := ⟨@L2.pe_one _ _ _ _ _ h.h⟩
theorem qe_and {X : L2.Cx} {a : PySem.Expr} {b : PySem.Expr} {ta : L2.TE} {tb : L2.TE} {pos : PySem.Pos} {rest : List PySem.Expr} (ha : QE X a ta) (hb : QE X (PySem.Expr.BoolOp PySem.BoolOp.And (b :: rest) pos) tb) : QE X (PySem.Expr.BoolOp PySem.BoolOp.And (a :: b :: rest) pos) (L2.tAndV ta tb) := ⟨@L2.pe_and _ _ _ _ _ _ _ ha.h hb.h⟩
theorem qe_or {X : L2.Cx} {a : PySem.Expr} {b : PySem.Expr} {ta : L2.TE} {tb : L2.TE} {pos : PySem.Pos} {rest : List PySem.Expr} (ha : QE X a ta) (hb : QE X (PySem.Expr.BoolOp PySem.BoolOp.Or (b :: rest) pos) tb) : QE X (PySem.Expr.BoolOp PySem.BoolOp.Or (a :: b :: rest) pos) (L2.tOrV ta tb) := ⟨@L2.pe_or _ _ _ _ _ _ _ ha.h hb.h⟩
theorem qe_cmpR {X : L2.Cx} {a : PySem.Expr} {b : PySem.Expr} {ta : L2.TE} {tb : L2.TE} {pos : PySem.Pos} {op : PySem.CmpOp} {r : L2.R2} (ho : L2.OpR X (PySem.compareOp op) r) (ha : QE X a ta) (hb : QE X b tb) (hm : PySem.behindInMarks op b = Bool.false) : QE X (PySem.Expr.Compare a [op] [b] pos) (L2.tOp r ta tb) := ⟨@L2.pe_cmpR _ _ _ _ _ _ _ _ ho ha.h hb.h hm⟩
theorem qe_lst {X : L2.Cx} {es : List PySem.Expr} {t : L2.TA} {pos : PySem.Pos} (h : QA X es t) : QE X (PySem.Expr.List es pos) (L2.tLst t) := ⟨@L2.pe_lst _ _ _ _ h.h⟩
theorem qe_tup {X : L2.Cx} {es : List PySem.Expr} {t : L2.TA} {pos : PySem.Pos} {x1 : Nat} (h : QA X es t) : QE X (PySem.Expr.Tuple es x1 pos) (L2.tTup t) := ⟨@L2.pe_tup _ _ _ _ _ h.h⟩
theorem qe_slice {X : L2.Cx} {e : PySem.Expr} {te : L2.TE} {lo : Option PySem.Expr} {hi : Option PySem.Expr} {tl : L2.TO} {th : L2.TO} {pos : PySem.Pos} {p2 : PySem.Pos} {r : L2.V -> Option Int -> Option Int -> L2.Hp -> L2.VK -> Prop} (hr : L2.SlR X r) (he : QE X e te) (hl : QO X lo tl) (hu : QO X hi th) : QE X (PySem.Expr.Subscript e (PySem.Expr.Slice lo hi Option.none p2) pos) (L2.tSl r te tl th) := ⟨@L2.pe_slice _ _ _ _ _ _ _ _ _ _ hr he.h hl.h hu.h⟩
theorem qe_ix {X : L2.Cx} {a : PySem.Expr} {b : PySem.Expr} {ta : L2.TE} {tb : L2.TE} {pos : PySem.Pos} {r : L2.R2} (hr : L2.IxR X r) (ha : QE X a ta) (hb : QE X b tb) (hs : L2.PlainIx b) : QE X (PySem.Expr.Subscript a b pos) (L2.tOp r ta tb) := ⟨@L2.pe_ix _ _ _ _ _ _ _ hr ha.h hb.h hs⟩
theorem qe_comp {X : L2.Cx} {elt : PySem.Expr} {iter : PySem.Expr} {ifs : List PySem.Expr} {sc : PySem.Scope} {pos : PySem.Pos} {px : PySem.Pos} {t : PySem.Str} {ys : List PySem.Str} {js : List Nat} {wi : L2.TI} {tc : L2.TT} {te : L2.TE} (hc : L2.Cx.calm X = Bool.true) (hck : L2.compChk (L2.Cx.N X) (PySem.Env.scope (L2.Cx.env X)) sc t ys js = Bool.true) (hi : QI X (PySem.Expr.Name t px) iter wi) (hf : ∀ (cl : List (PySem.Str × PySem.Addr)) (C : PySem.Addr) (s : PySem.Shared) (H : L2.Hp) (fp : List PySem.Addr), QIf (L2.Cx.comp X sc cl C (t :: ys) s H fp) ifs tc) (he : ∀ (cl : List (PySem.Str × PySem.Addr)) (C : PySem.Addr) (s : PySem.Shared) (H : L2.Hp) (fp : List PySem.Addr), QE (L2.Cx.comp X sc cl C (t :: ys) s H fp) elt te) (hs : ∀ (x : PySem.Value), PySem.foldedSetIterable iter (L2.Cx.env X) x = Pure.pure x := by intro _; rfl) : QE X (PySem.Expr.ListComp elt [{ target := PySem.Expr.Name t px, iter := iter, ifs := ifs, is_async := 0 }] sc pos) (L2.tComp wi js tc te) := ⟨@L2.pe_comp _ _ _ _ _ _ _ _ _ _ _ _ _ hc hck hi.h (fun cl C s H fp => (hf cl C s H fp).h) (fun cl C s H fp => (he cl C s H fp).h) hs⟩
theorem qe_call {X : L2.Cx} {CX : L2.CXT} {k : Nat} {f : PySem.Addr} {fd : PySem.FuncData} {ps : List PySem.Str} {sp : L2.Sp} {dvs : List L2.V} {ds : List PySem.Value} {E : L2.XK} {x : PySem.Str} {p : PySem.Pos} {pos : PySem.Pos} {e : PySem.Expr} {es : List PySem.Expr} {t : L2.TA} (F : L2.FnOk (L2.Cx.prog X) (L2.Cx.w X) (L2.Cx.K X) (L2.Cx.mg X) (L2.Cx.base X) CX k f fd ps sp) (hr : L2.Room k (L2.Cx.A X)) (hg : L2.Gl X x) (hm : L2.Cx.mg X x = Option.some (PySem.Value.ref f)) (hk : PySem.W.keepIn (L2.Cx.K X) (PySem.Value.ref f) = Bool.true) (hb : L2.Binds (L2.Cx.K X) fd ps ds) (hd : L2.Vals dvs ds) (hx : L2.Passes CX X E) (ha : QA X (e :: es) t) (hdb : (x == PySem.Str.ofString "__debug__") = Bool.false := by decide) (he : PySem.starEach (e :: es) (L2.Cx.env X) = (Bool.false, PySem.eval e (L2.Cx.env X)) :: PySem.starEach es (L2.Cx.env X) := by rfl) (hpl : (List.any (PySem.backTo pos (PySem.starEach es (L2.Cx.env X))) fun (x : Bool × PySem.Sem PySem.Value) => Prod.fst x) = Bool.false := by rfl) : QE X (PySem.Expr.Call (PySem.Expr.Name x p) (e :: es) [] pos) (L2.tCall sp dvs E t) := ⟨@L2.pe_call _ _ _ _ _ _ _ _ _ _ _ _ _ _ _ _ F hr hg hm hk hb hd hx ha.h hdb he hpl⟩
theorem qe_callB {X : L2.Cx} {x : PySem.Str} {p : PySem.Pos} {pos : PySem.Pos} {e : PySem.Expr} {es : List PySem.Expr} {t : L2.TA} {id : String} {r : List L2.V -> L2.Hp -> L2.VK -> Prop} (hc : L2.CallR X (PySem.Value.builtin id) r) (hg : L2.Gl X x) (hm : L2.Cx.mg X x = Option.none) (hv : PySem.bootBuiltins x = Option.some (PySem.Value.builtin id)) (ha : QA X (e :: es) t) (hn : x ≠ PySem.Str.ofString "__name__" := by decide) (hdb : (x == PySem.Str.ofString "__debug__") = Bool.false := by decide) (he : PySem.starEach (e :: es) (L2.Cx.env X) = (Bool.false, PySem.eval e (L2.Cx.env X)) :: PySem.starEach es (L2.Cx.env X) := by rfl) (hpl : (List.any (PySem.backTo pos (PySem.starEach es (L2.Cx.env X))) fun (x : Bool × PySem.Sem PySem.Value) => Prod.fst x) = Bool.false := by rfl) : QE X (PySem.Expr.Call (PySem.Expr.Name x p) (e :: es) [] pos) (L2.tCB r t) := ⟨@L2.pe_callB _ _ _ _ _ _ _ _ _ hc hg hm hv ha.h hn hdb he hpl⟩
theorem qe_callTy {X : L2.Cx} {x : PySem.Str} {p : PySem.Pos} {pos : PySem.Pos} {e : PySem.Expr} {es : List PySem.Expr} {t : L2.TA} {T : String} {r : List L2.V -> L2.Hp -> L2.VK -> Prop} (hc : L2.CallR X (PySem.Value.type T) r) (hg : L2.Gl X x) (hm : L2.Cx.mg X x = Option.none) (hv : PySem.bootBuiltins x = Option.some (PySem.Value.type T)) (ha : QA X (e :: es) t) (hn : x ≠ PySem.Str.ofString "__name__" := by decide) (hdb : (x == PySem.Str.ofString "__debug__") = Bool.false := by decide) (he : PySem.starEach (e :: es) (L2.Cx.env X) = (Bool.false, PySem.eval e (L2.Cx.env X)) :: PySem.starEach es (L2.Cx.env X) := by rfl) (hpl : (List.any (PySem.backTo pos (PySem.starEach es (L2.Cx.env X))) fun (x : Bool × PySem.Sem PySem.Value) => Prod.fst x) = Bool.false := by rfl) : QE X (PySem.Expr.Call (PySem.Expr.Name x p) (e :: es) [] pos) (L2.tCB r t) := ⟨@L2.pe_callTy _ _ _ _ _ _ _ _ _ hc hg hm hv ha.h hn hdb he hpl⟩
theorem qe_bm {X : L2.Cx} {o : PySem.Expr} {e : PySem.Expr} {es : List PySem.Expr} {to : L2.TE} {t : L2.TA} {name : PySem.Str} {apos : PySem.Pos} {cpos : PySem.Pos} {T : String} {id : String} {r : L2.V -> List L2.V -> L2.Hp -> L2.VK -> Prop} (pa : PySem.PlainAttrs T) (slot : PySem.Slot T name id) (hty : PySem.typeOf (PySem.Value.builtin id) = Pure.pure (PySem.Value.type "method_descriptor")) (hm : L2.MtR X id r) (ho : QE X o to) (ha : QA X (e :: es) t) (hbase : PySem.attributeBase o name (L2.Cx.env X) (PySem.eval o (L2.Cx.env X)) = PySem.eval o (L2.Cx.env X) := by rfl) (hfew : (((List.all (PySem.backTo cpos (PySem.starEach (e :: es) (L2.Cx.env X))) fun (x : Bool × PySem.Sem PySem.Value) => !Prod.fst x) && List.all (PySem.backToKw cpos (PySem.keywordEach [] (L2.Cx.env X))) fun (x : Option PySem.Str × PySem.Sem PySem.Value) => Option.isSome (Prod.fst x)) && Decidable.decide ((List.length (e :: es) + List.length ([] : List PySem.Keyword) + if List.isEmpty ([] : List PySem.Keyword) = Bool.true then 0 else 1) < 30)) = Bool.true := by rfl) (hline : (PySem.Pos.endLine apos == PySem.Pos.line cpos) = Bool.true := by rfl) (hs : PySem.starEach (e :: es) (L2.Cx.env X) = (Bool.false, PySem.eval e (L2.Cx.env X)) :: PySem.starEach es (L2.Cx.env X) := by rfl) (hplain : (List.any (PySem.backTo cpos (PySem.starEach es (L2.Cx.env X))) fun (x : Bool × PySem.Sem PySem.Value) => Prod.fst x) = Bool.false := by rfl) : QE X (PySem.Expr.Call (PySem.Expr.Attribute o name apos) (e :: es) [] cpos) (L2.tBM (L2.Cx.K X) T r to t) := ⟨@L2.pe_bm _ _ _ _ _ _ _ _ _ _ _ _ pa slot hty hm ho.h ha.h hbase hfew hline hs hplain⟩
theorem qe_bm0 {X : L2.Cx} {o : PySem.Expr} {to : L2.TE} {name : PySem.Str} {apos : PySem.Pos} {cpos : PySem.Pos} {T : String} {id : String} {r : L2.V -> List L2.V -> L2.Hp -> L2.VK -> Prop} (pa : PySem.PlainAttrs T) (slot : PySem.Slot T name id) (hty : PySem.typeOf (PySem.Value.builtin id) = Pure.pure (PySem.Value.type "method_descriptor")) (hm : L2.MtR X id r) (ho : QE X o to) (hbase : PySem.attributeBase o name (L2.Cx.env X) (PySem.eval o (L2.Cx.env X)) = PySem.eval o (L2.Cx.env X) := by rfl) (hline : (PySem.Pos.endLine apos == PySem.Pos.line cpos) = Bool.true := by rfl) : QE X (PySem.Expr.Call (PySem.Expr.Attribute o name apos) [] [] cpos) (L2.tBM0 (L2.Cx.K X) T r to) := ⟨@L2.pe_bm0 _ _ _ _ _ _ _ _ _ pa slot hty hm ho.h hbase hline⟩
theorem qt_not {X : L2.Cx} {a : PySem.Expr} {pos : PySem.Pos} {tA : L2.TT} (ha : QT X a tA) : QT X (PySem.Expr.UnaryOp PySem.UnaryOp.Not a pos) (L2.tNot tA) := ⟨@L2.pt_not _ _ _ _ ha.h⟩
theorem qt_val {X : L2.Cx} {e : PySem.Expr} {t : L2.TE} (h : QE X e t) (he : ∀ (whole : PySem.Sem PySem.Value), PySem.isTrue e (L2.Cx.env X) whole = (do let v <- whole; PySem.standAt (PySem.Expr.pos e); PySem.holding [v] (PySem.truthy v)) := by intro _; rfl) : QT X e (L2.tB t) := ⟨@L2.pt_val _ _ _ h.h he⟩
theorem qt_cmpR {X : L2.Cx} {a : PySem.Expr} {b : PySem.Expr} {ta : L2.TE} {tb : L2.TE} {pos : PySem.Pos} {op : PySem.CmpOp} {r : L2.R2} (ho : L2.OpR X (PySem.compareOp op) r) (ha : QE X a ta) (hb : QE X b tb) (hm : PySem.behindInMarks op b = Bool.false) : QT X (PySem.Expr.Compare a [op] [b] pos) (L2.tTest (L2.tOp r ta tb)) := ⟨@L2.pt_cmpR _ _ _ _ _ _ _ _ ho ha.h hb.h hm⟩
theorem qw_and {X : L2.Cx} {a : PySem.Expr} {b : PySem.Expr} {pos : PySem.Pos} {tA : L2.TT} {tB' : L2.TT} {rest : List PySem.Expr} (ha : QT X a tA) (hb : QW X (PySem.Expr.BoolOp PySem.BoolOp.And (b :: rest) pos) tB') : QW X (PySem.Expr.BoolOp PySem.BoolOp.And (a :: b :: rest) pos) (L2.tAnd tA tB') := ⟨@L2.pw_and _ _ _ _ _ _ _ ha.h hb.h⟩
theorem qw_or {X : L2.Cx} {a : PySem.Expr} {b : PySem.Expr} {pos : PySem.Pos} {tA : L2.TT} {tB' : L2.TT} {rest : List PySem.Expr} (ha : QT X a tA) (hb : QW X (PySem.Expr.BoolOp PySem.BoolOp.Or (b :: rest) pos) tB') : QW X (PySem.Expr.BoolOp PySem.BoolOp.Or (a :: b :: rest) pos) (L2.tOr tA tB') := ⟨@L2.pw_or _ _ _ _ _ _ _ ha.h hb.h⟩
theorem qw_and1 {X : L2.Cx} {a : PySem.Expr} {pos : PySem.Pos} {tA : L2.TT} (ha : QT X a tA) : QW X (PySem.Expr.BoolOp PySem.BoolOp.And [a] pos) tA := ⟨@L2.pw_and1 _ _ _ _ ha.h⟩
theorem qw_or1 {X : L2.Cx} {a : PySem.Expr} {pos : PySem.Pos} {tA : L2.TT} (ha : QT X a tA) : QW X (PySem.Expr.BoolOp PySem.BoolOp.Or [a] pos) tA := ⟨@L2.pw_or1 _ _ _ _ ha.h⟩
theorem qw_pt {X : L2.Cx} {e : PySem.Expr} {t : L2.TT} (h : QW X e t) : QT X e t := ⟨@L2.PW.pt _ _ _ h.h⟩
theorem qo_some {X : L2.Cx} {e : PySem.Expr} {te : L2.TE} (h : QE X e te) : QO X (Option.some e) (L2.tPart te) := ⟨@L2.po_some _ _ _ h.h⟩
theorem qi_list {X : L2.Cx} {tg : PySem.Expr} {l : PySem.Expr} {tl : L2.TE} (hl : QE X l tl) : QI X tg l (L2.iList (L2.Cx.K X) tl) := ⟨@L2.pi_list _ _ _ _ hl.h⟩
theorem qi_tup {X : L2.Cx} {tg : PySem.Expr} {l : PySem.Expr} {tl : L2.TE} (hl : QE X l tl) : QI X tg l (L2.iTup (L2.Cx.K X) tl) := ⟨@L2.pi_tup _ _ _ _ hl.h⟩
theorem qi_range1 {X : L2.Cx} {tg : PySem.Expr} {a : PySem.Expr} {ta : L2.TA} {p : PySem.Pos} {pos : PySem.Pos} (hg : L2.Gl X (PySem.Str.ofString "range")) (hm : L2.Cx.mg X (PySem.Str.ofString "range") = Option.none) (ha : QA X [a] ta) (hs : PySem.starEach [a] (L2.Cx.env X) = [(Bool.false, PySem.eval a (L2.Cx.env X))] := by rfl) : QI X tg (PySem.Expr.Call (PySem.Expr.Name (PySem.Str.ofString "range") p) [a] [] pos) (L2.iRng1 ta) := ⟨@L2.pi_range1 _ _ _ _ _ _ hg hm ha.h hs⟩
theorem qi_range2 {X : L2.Cx} {tg : PySem.Expr} {a : PySem.Expr} {b : PySem.Expr} {ta : L2.TA} {p : PySem.Pos} {pos : PySem.Pos} (hg : L2.Gl X (PySem.Str.ofString "range")) (hm : L2.Cx.mg X (PySem.Str.ofString "range") = Option.none) (ha : QA X [a, b] ta) (hs : PySem.starEach [a, b] (L2.Cx.env X) = [(Bool.false, PySem.eval a (L2.Cx.env X)), (Bool.false, PySem.eval b (L2.Cx.env X))] := by rfl) (hs2 : PySem.starEach [b] (L2.Cx.env X) = [(Bool.false, PySem.eval b (L2.Cx.env X))] := by rfl) : QI X tg (PySem.Expr.Call (PySem.Expr.Name (PySem.Str.ofString "range") p) [a, b] [] pos) (L2.iRng2 ta) := ⟨@L2.pi_range2 _ _ _ _ _ _ _ hg hm ha.h hs hs2⟩
theorem qg_name {X : L2.Cx} {pos : PySem.Pos} {i : Nat} {x : PySem.Str} (hN : List.Nodup (L2.Cx.N X)) (hi : (L2.Cx.N X)[i]? = Option.some x) (hx : L2.Loc (PySem.Env.scope (L2.Cx.env X)) x) (hf : L2.Cx.fn X x = Bool.true \/ List.lookup x (PySem.Scope.names (PySem.Env.scope (L2.Cx.env X))) = Option.some PySem.NameKind.local := by first | exact .inl rfl | exact .inr rfl | assumption) : QG X (PySem.Expr.Name x pos) (L2.gName i) := ⟨@L2.pg_name _ _ _ _ hN hi hx hf⟩
theorem qg_tup {X : L2.Cx} {pos : PySem.Pos} {es : List PySem.Expr} {k : Nat} {t : L2.TGs} {n : Nat} (hc : L2.Cx.calm X = Bool.true) (h : QGs X es t) (hn : List.length (PySem.assignEach es (L2.Cx.env X)) = n := by rfl) (hst : List.findIdx? (fun (x : Bool × (PySem.Value -> PySem.Sem Unit)) => Prod.fst x) (PySem.assignEach es (L2.Cx.env X)) = Option.none := by rfl) : QG X (PySem.Expr.Tuple es k pos) (L2.gTup (L2.Cx.K X) n t) := ⟨@L2.pg_tup _ _ _ _ _ _ hc h.h hn hst⟩
theorem qgs_cons {X : L2.Cx} {e : PySem.Expr} {es : List PySem.Expr} {t : L2.TG} {u : L2.TGs} (h1 : QG X e t) (h2 : QGs X es u) (hs : List.map (fun (x : Bool × (PySem.Value -> PySem.Sem Unit)) => Prod.snd x) (PySem.assignEach (e :: es) (L2.Cx.env X)) = PySem.assign e (L2.Cx.env X) :: List.map (fun (x : Bool × (PySem.Value -> PySem.Sem Unit)) => Prod.snd x) (PySem.assignEach es (L2.Cx.env X)) := by rfl) : QGs X (e :: es) (L2.gCons t u) := ⟨@L2.pgs_cons _ _ _ _ _ h1.h h2.h hs⟩
theorem qaT {X : L2.Cx} {es : List PySem.Expr} {te : L2.TE} {t : L2.TA} {a : List PySem.Expr} {k : Nat} {p : PySem.Pos} (ha : QE X (PySem.Expr.Tuple a k p) te) (hr : QA X es t) : QA X (PySem.Expr.Tuple a k p :: es) (L2.tCons te t) := ⟨@L2.paT _ _ _ _ _ _ _ ha.h hr.h⟩
theorem qaC {X : L2.Cx} {es : List PySem.Expr} {te : L2.TE} {t : L2.TA} {c : PySem.Const} {k : Nat} {p : PySem.Pos} (ha : QE X (PySem.Expr.Constant c k p) te) (hr : QA X es t) : QA X (PySem.Expr.Constant c k p :: es) (L2.tCons te t) := ⟨@L2.paC _ _ _ _ _ _ _ ha.h hr.h⟩
theorem qaN {X : L2.Cx} {es : List PySem.Expr} {te : L2.TE} {t : L2.TA} {x : PySem.Str} {p : PySem.Pos} (ha : QE X (PySem.Expr.Name x p) te) (hr : QA X es t) : QA X (PySem.Expr.Name x p :: es) (L2.tCons te t) := ⟨@L2.paN _ _ _ _ _ _ ha.h hr.h⟩
theorem qaB {X : L2.Cx} {es : List PySem.Expr} {te : L2.TE} {t : L2.TA} {l : PySem.Expr} {r : PySem.Expr} {o : PySem.Operator} {p : PySem.Pos} (ha : QE X (PySem.Expr.BinOp l o r p) te) (hr : QA X es t) : QA X (PySem.Expr.BinOp l o r p :: es) (L2.tCons te t) := ⟨@L2.paB _ _ _ _ _ _ _ _ ha.h hr.h⟩
theorem qaS {X : L2.Cx} {es : List PySem.Expr} {te : L2.TE} {t : L2.TA} {v : PySem.Expr} {i : PySem.Expr} {p : PySem.Pos} (ha : QE X (PySem.Expr.Subscript v i p) te) (hr : QA X es t) : QA X (PySem.Expr.Subscript v i p :: es) (L2.tCons te t) := ⟨@L2.paS _ _ _ _ _ _ _ ha.h hr.h⟩
theorem qaK {X : L2.Cx} {es : List PySem.Expr} {te : L2.TE} {t : L2.TA} {f : PySem.Expr} {a : List PySem.Expr} {k : List PySem.Keyword} {p : PySem.Pos} (ha : QE X (PySem.Expr.Call f a k p) te) (hr : QA X es t) : QA X (PySem.Expr.Call f a k p :: es) (L2.tCons te t) := ⟨@L2.paK _ _ _ _ _ _ _ _ ha.h hr.h⟩
theorem qaE {X : L2.Cx} {es : List PySem.Expr} {te : L2.TE} {t : L2.TA} {e : PySem.Expr} {g : List PySem.Comprehension} {s : PySem.Scope} {p : PySem.Pos} (ha : QE X (PySem.Expr.ListComp e g s p) te) (hr : QA X es t) : QA X (PySem.Expr.ListComp e g s p :: es) (L2.tCons te t) := ⟨@L2.paE _ _ _ _ _ _ _ _ ha.h hr.h⟩
theorem qaD {X : L2.Cx} {es : List PySem.Expr} {te : L2.TE} {t : L2.TA} {a : List (Option PySem.Expr)} {v : List PySem.Expr} {p : PySem.Pos} (ha : QE X (PySem.Expr.Dict a v p) te) (hr : QA X es t) : QA X (PySem.Expr.Dict a v p :: es) (L2.tCons te t) := ⟨@L2.paD _ _ _ _ _ _ _ ha.h hr.h⟩
theorem qv {X : L2.Cx} (i : Nat) {x : PySem.Str} {pos : PySem.Pos} (hN : (L2.Cx.N X)[i]? = Option.some x := by rfl) (hv : L2.Vis (PySem.Env.scope (L2.Cx.env X)) x := by first | exact Or.inl rfl | exact Or.inr (Or.inl rfl) | exact Or.inr (Or.inr rfl)) (hd : (x == PySem.Str.ofString "__debug__") = Bool.false := by decide) (hcd : (x == PySem.Str.ofString "__classdict__") = Bool.false := by decide) : QE X (PySem.Expr.Name x pos) (L2.tVar i) := ⟨@L2.pv _ i _ _ hN hv hd hcd⟩
theorem qe_int {X : L2.Cx} {i : Int} {j : Nat} {pos : PySem.Pos} : QE X (PySem.Expr.Constant (PySem.Const.int i) j pos) (L2.tC (L2.V.int i)) := ⟨@L2.pe_int _ _ _ _⟩
theorem qe_str {X : L2.Cx} {x : PySem.Str} {j : Nat} {pos : PySem.Pos} : QE X (PySem.Expr.Constant (PySem.Const.str x) j pos) (L2.tC (L2.V.str x)) := ⟨@L2.pe_str _ _ _ _⟩
theorem qe_bl {X : L2.Cx} {b : Bool} {j : Nat} {pos : PySem.Pos} : QE X (PySem.Expr.Constant (PySem.Const.bool b) j pos) (L2.tC (L2.V.bl b)) := ⟨@L2.pe_bl _ _ _ _⟩
theorem qe_non {X : L2.Cx} {j : Nat} {pos : PySem.Pos} : QE X (PySem.Expr.Constant PySem.Const.none j pos) (L2.tC L2.V.non) := ⟨@L2.pe_non _ _ _⟩
theorem qe_glob {X : L2.Cx} {x : PySem.Str} {v : L2.V} {u : PySem.Value} {pos : PySem.Pos} (hg : L2.Gl X x) (hm : L2.Cx.mg X x = Option.some u) (r : L2.RelV v u) (hd : (x == PySem.Str.ofString "__debug__") = Bool.false := by decide) : QE X (PySem.Expr.Name x pos) (L2.tC v) := ⟨@L2.pe_glob _ _ _ _ _ hg hm r hd⟩
theorem qe_bltn {X : L2.Cx} {x : PySem.Str} {v : L2.V} {u : PySem.Value} {pos : PySem.Pos} (hg : L2.Gl X x) (hm : L2.Cx.mg X x = Option.none) (hv : PySem.bootBuiltins x = Option.some u) (r : L2.RelV v u) (hn : x ≠ PySem.Str.ofString "__name__" := by decide) (hd : (x == PySem.Str.ofString "__debug__") = Bool.false := by decide) : QE X (PySem.Expr.Name x pos) (L2.tC v) := ⟨@L2.pe_bltn _ _ _ _ _ hg hm hv r hn hd⟩
theorem qss_nil {X : L2.Cx} : QSs X [] L2.tNext := ⟨@L2.pss_nil _⟩
theorem qa_nil {X : L2.Cx} : QA X [] L2.tNil := ⟨@L2.pa_nil _⟩
theorem qo_none {X : L2.Cx} : QO X Option.none L2.tNoPart := ⟨@L2.po_none _⟩
theorem qif_nil {X : L2.Cx} : QIf X [] L2.tYes := ⟨@L2.pif_nil _⟩
theorem qgs_nil {X : L2.Cx} : QGs X [] L2.gNil := ⟨@L2.pgs_nil _⟩
theorem qt_truth {X : L2.Cx} {a : PySem.Expr} {ta : L2.TE} (ha : QE X a ta) (he : ∀ (whole : PySem.Sem PySem.Value), PySem.isTrue a (L2.Cx.env X) whole = (do let v <- whole; PySem.standAt (PySem.Expr.pos a); PySem.holding [v] (PySem.truthy v))) : QT X a fun (σ : L2.St) (H : L2.Hp) (Q : Bool -> L2.Hp -> Prop) => ta σ H fun (x : L2.V) (H' : L2.Hp) => ∃ (k : Bool), L2.TruV (L2.Cx.K X) x H' k /\ Q k H' := ⟨@L2.pt_truth _ _ _ ha.h he⟩
section
variable {P : Program} {w : World} {K : PySem.W.Frag} {mg : Str -> Option Value} {base : Heap}
theorem Fun.okQ {x qual : Str} {st : Stmt} {f : Addr} {fd : FuncData} {N ps : List Str} {k : Nat} {sp : Sp} (F : Fun K x qual st f fd) (S : FnScope N ps (defScope st)) (len : ∀ vs H Q E, sp vs H Q E -> vs.length = ps.length)
    (hbody : ∀ (cdv : Value) (A : Around) (outer : List Env) (s : Shared) (H : Hp) (vs : List V) (Q : VK) (E : XK), Room k (A.deeper (envOfC qual (defScope st) s.heap.objs.size f cdv)) -> sp vs H Q E ->
      ∃ t, QSs (cxOf CX0 P w K mg base N qual (defScope st) f cdv A outer s H E).nox (defBody st) t /\ t { nx := fun _ H' => Q .non H', rt := Q } (start N vs) H) : FnOk P w K mg base CX0 (k + 1) f fd ps sp :=
  F.ok S len fun cdv A outer s H vs Q E hr h => let ⟨t, h1, h2⟩ := hbody cdv A outer s H vs Q E hr h; ⟨t, h1.h, h2⟩
end
end L2
namespace L2
open PySem PySem.Spec PyProof.Rows
abbrev vbm : List Value := [.type "ValueError", .type "Exception", .type "BaseException", .type "object"]
abbrev ExcC (K : PySem.W.Frag) (C : Addr) : Prop := PySem.W.excIn K C vbm "ValueError.__new__" = true
theorem exc_obj {K : PySem.W.Frag} {h : Heap} {C : Addr} {bmB : List Value} {newId : String} (X : K.In h) (q : PySem.W.excIn K C bmB newId = true) :
    ∃ bm N nm qn bs hdct sn sub ab col dd k0 k1 k2 k3 k5 mN, h.get? C = some (excClassObj nm qn C N bs bm hdct sn sub ab col dd k0 k1 k2 k3 k5 newId) /\ h.Ns N mN /\ mN "__init__" = none /\ OwnTail h bmB bm /\
      ∀ v b, PySem.W.mroIn K C v = some b -> (Value.ref C :: bm).contains v = b := by
  unfold PySem.W.excIn at q
  split at q
  · rename_i dd cd sl ho
    split at q
    · rename_i C' bm k0 k1 k2 k3 n k5 hm hs
      simp only [Bool.and_eq_true, beq_iff_eq, Bool.not_eq_true'] at q
      obtain ⟨⟨⟨⟨⟨rfl, rfl⟩, hdel⟩, ht⟩, hok⟩, hni⟩ := q
      obtain ⟨nm, bs, mro, ns, qn, hd, sn, sub, ab, col, del⟩ := cd
      dsimp only at hm hdel hok hni
      subst hm hdel
      have hsl : sl = #[k0, k1, k2, k3, some (.builtin n), k5] := by
        obtain ⟨l⟩ := sl
        simp only at hs
        rw [hs]
      subst hsl
      refine ⟨bm, ns, nm, qn, bs, hd, sn, sub, ab, col, dd, k0, k1, k2, k3, k5, _, X _ _ ho, .of_isNs (PySem.W.isNs_of_in X hok), PySem.W.nsMap_none_of_in X hok hni, PySem.W.tail_of_in X ht, fun v b e => ?_⟩
      unfold PySem.W.mroIn PySem.W.clsIn at e
      rw [ho] at e
      simpa using e
    · cases q
  · cases q
theorem ObjOk.there {P : Program} {w : World} {H : Hp} {h : Heap} {a : Addr} {o : HO} (x : ObjOk P w H h a o) : ∃ ob, h.get? a = some ob := by
  cases o with
  | lst xs => obtain ⟨_, _, _, _, e⟩ := x; exact ⟨_, e⟩
  | tup xs => obtain ⟨_, _, _, p⟩ := x; obtain ⟨ob, e, _⟩ := p; exact ⟨ob, e⟩
  | dK kvs => obtain ⟨_, _, _, _, o, _, _, e, _⟩ := x; exact ⟨_, e⟩
  | dT kvs => obtain ⟨_, _, _, _, o, _, _, e, _⟩ := x; exact ⟨_, e⟩
  | set S n => obtain ⟨o, _, _, _, e, _⟩ := x; exact ⟨_, e⟩
  | ins C dx fs => obtain ⟨_, _, _, e, _⟩ := x; exact ⟨_, e⟩
  | own y => exact x
  | xd fs => obtain ⟨_, ⟨_, _, _, e, _⟩, _⟩ := x; exact ⟨_, e⟩
  | rng lo hi => obtain ⟨_, _, _, e⟩ := x; exact ⟨_, e⟩
  | frz ob u => obtain ⟨e, _⟩ := x; exact ⟨_, e⟩
  | tbl ps => exact ⟨_, show h.get? a = some _ from x⟩
  | met f y => exact ⟨_, show h.get? a = some _ from x⟩
  | ext φ => obtain ⟨_, e, _⟩ := x; exact e
structure XO (P : Program) (w : World) (outer : List Env) (H : Hp) (s : Shared) (cls : Value) (a : Addr) (H' : Hp) (s' : Shared) : Prop where
  os : s'.os = s.os
  bare : AllBare s'.gens
  un : Un (frs outer) [] H H' s.heap s'.heap
  hok : HOk P w H' s'.heap
  new : s.heap.get? a = none
  free : H' a = none
  fly : ∃ B a0, Heap.FlyingW B outer a cls a0 s'.heap /\ ∀ b o, (H' b ≠ none \/ ∃ o', s.heap.get? b = some o') -> b ∉ frs outer -> s'.heap.get? b = some o -> B.get? b = some o
section
variable {X : Cx} {pins : List (Addr × Obj)} {σ : St} {H H' : Hp} {s s' : Shared} {M : Model} {E' : Value -> Shared -> Prop} {a : Addr} {cls : Value}
theorem Un.fly {fs : List Addr} {H0 : Hp} {h0 h h' B : Heap} {fr : List Addr} (u : Un fs [] H0 H h0 h) (hfs : ∀ b ∈ fr, b ∈ fs \/ ∀ o, h0.get? b ≠ some o) (stay : B.StaysIn h') (big : ∀ b o, h.get? b = some o -> b ∉ fr -> (H b ≠ none \/ ∃ o', h0.get? b = some o') -> B.get? b = some o)
    (slots : ∀ b o, h.get? b = some o -> b ∈ fr -> ∃ sl, h'.get? b = some { o with slots := sl }) (sub : ∀ b ∈ fs, b ∈ fr) : Un fs [] H0 H h0 h' where
  keep := fun b o q n hb hx => by
    have e := u.keep b o q n hb hx
    have hf : b ∉ fr := fun z => by
      rcases hfs b z with y | y
      · exact hb y
      · exact y o q
    exact stay b o (big b o e hf (.inr ⟨o, q⟩))
  slot := fun b o q n hb hx => by
    obtain ⟨sl, e⟩ := u.slot b o q n hb hx
    obtain ⟨sl', e'⟩ := slots b _ e (sub b hb)
    exact ⟨sl', e'⟩
  free := u.free
  there := fun b o q hx => by
    obtain ⟨o', e⟩ := u.there b o q hx
    by_cases hf : b ∈ fr
    · obtain ⟨sl, e'⟩ := slots b o' e hf
      exact ⟨_, e'⟩
    · exact ⟨o', stay b o' (big b o' e hf (.inr ⟨o, q⟩))⟩
  tups := u.tups
  frzs := u.frzs
  tbls := u.tbls
theorem HOk.fly {P : Program} {w : World} {H : Hp} {h h' B : Heap} {fr : List Addr} (ok : HOk P w H h) (hfr : ∀ b ∈ fr, H b = none) (stay : B.StaysIn h') (big : ∀ b o, h.get? b = some o -> b ∉ fr -> H b ≠ none -> B.get? b = some o) : HOk P w H h' := fun a o e => by
  refine (ok a o e).stay (fun b u hb q => ?_) (fun _ q => q) fun _ _ q => q
  have hn : H b ≠ none := by
    rcases hb with rfl | hb
    · rw [e]; exact fun z => nomatch z
    · rw [hb]; exact fun z => nomatch z
  exact stay b u (big b u q (fun z => hn (hfr b z)) hn)
theorem frs_cons {env : Env} {l : List Env} {L : Addr} (h : env.frame = some L) : frs (env :: l) = L :: frs l := by
  unfold frs
  rw [List.filterMap_cons, h]
theorem Inv.pass (I : Inv X pins σ H s) (hs : X.stack = X.env :: X.outer) (hf : X.env.frame = some X.env.locals) (hex : X.ex = []) (x : XO X.prog X.w X.stack H s cls a H' s') :
    wpAny M X.A (leaving X.env (.ref a)) (fun _ s'' => XO X.prog X.w X.outer X.H₀ X.s₀ cls a H' s'') E' s' := by
  rw [hs] at x
  have hfr : X.A.frames = some (X.env :: X.outer) := by rw [<- hs]; exact I.ok.frames
  obtain ⟨B, a0, fly, big⟩ := x.fly
  have ub : Un X.fs [] X.H₀ H X.s₀.heap s.heap := by have := I.base; rw [hex] at this; exact this
  have nL : ∀ o, X.s₀.heap.get? X.env.locals ≠ some o := fun o z => absurd (Nat.lt_of_lt_of_le (Heap.lt_size z) I.ok.above) (Nat.lt_irrefl _)
  have hfree : ∀ b ∈ frs (X.env :: X.outer), H b = none := by rw [<- hs]; exact I.stkFree
  have hFF : s.heap.FunFrames X.base (X.env :: X.outer) := by rw [<- hs]; exact I.stack
  have hsub : ∀ b ∈ X.fs, b ∈ frs (X.env :: X.outer) := fun b hb => by
    rw [frs_cons hf]
    exact List.mem_cons_of_mem _ hb
  have ut : Un X.fs [] X.H₀ H' X.s₀.heap s'.heap := by
    have nofr : ∀ b o, X.s₀.heap.get? b = some o -> b ∉ X.fs -> b ∉ frs (X.env :: X.outer) := fun b o q hb z => by
      rw [frs_cons hf] at z
      rcases List.mem_cons.mp z with rfl | z
      · exact nL o q
      · exact hb z
    refine ⟨fun b o q n hb hx => x.un.keep b o (ub.keep b o q n hb hx) (ub.free b o q n hx) (nofr b o q hb) (by simp), fun b o q n hb hx => ?_, fun b o q n hx => ?_, fun b o q hx => ?_, fun b xs q => x.un.tups b xs (ub.tups b xs q), fun b o u q => x.un.frzs b o u (ub.frzs b o u q), fun b ps q => ?_⟩
    · obtain ⟨sl, e⟩ := ub.slot b o q n hb hx
      obtain ⟨sl', e'⟩ := x.un.slot b _ e (ub.free b o q n hx) (hsub b hb) (by simp)
      exact ⟨sl', e'⟩
    · obtain ⟨o', e⟩ := ub.there b o q hx
      exact x.un.free b o' e (ub.free b o q n hx) (by simp)
    · obtain ⟨o', e⟩ := ub.there b o q hx
      exact x.un.there b o' e (by simp)
    · obtain ⟨m1, e1⟩ := ub.tbls b ps q
      obtain ⟨m2, e2⟩ := x.un.tbls b _ e1
      exact ⟨m1 ++ m2, by rw [e2, Array.append_assoc]⟩
  have hfree' : ∀ b ∈ frs (X.env :: X.outer), H' b = none := fun b hb => by
    obtain ⟨_, o, e, _⟩ := hFF.mem hb
    exact x.un.free b o e (hfree b hb) (by simp)
  refine wpAny_leaves_onW hfr hf fly fun h' fl up => ?_
  have bigT : ∀ b o, s'.heap.get? b = some o -> b ∉ frs (X.env :: X.outer) -> (H' b ≠ none \/ ∃ o', X.s₀.heap.get? b = some o') -> B.get? b = some o := fun b o e n hb => by
    refine big b o ?_ n e
    rcases hb with hb | ⟨o', hb⟩
    · exact .inl hb
    · exact .inr (ub.there b o' hb (by simp))
  have slots : ∀ b o, s'.heap.get? b = some o -> b ∈ frs (X.env :: X.outer) -> ∃ sl, h'.get? b = some { o with slots := sl } := fun b o e hb => by
    obtain ⟨_, o', e', nf⟩ := fly.2.2.1.mem hb
    rw [e] at e'
    cases e'
    exact up b o e nf
  have hfs : ∀ b ∈ frs (X.env :: X.outer), b ∈ X.fs \/ ∀ o, X.s₀.heap.get? b ≠ some o := fun b hb => by
    rw [frs_cons hf] at hb
    rcases List.mem_cons.mp hb with rfl | hb
    · exact .inr nL
    · exact .inl hb
  refine ⟨x.os.trans I.os, x.bare, ut.fly hfs fl.1 bigT slots hsub, x.hok.fly hfree' fl.1 (fun b o e n hb => bigT b o e n (.inl hb)), ?_, x.free, B, a0, fl, fun b o hb hn e => ?_⟩
  · cases q : X.s₀.heap.get? a with
    | none => rfl
    | some o =>
      obtain ⟨o', e⟩ := ub.there a o q (by simp)
      have := x.new
      rw [e] at this
      cases this
  · have hnL : b ∉ frs (X.env :: X.outer) := fun z => by
      rw [frs_cons hf] at z
      rcases List.mem_cons.mp z with rfl | z
      · rcases hb with hb | ⟨o', hb⟩
        · exact hb (hfree' _ (by rw [frs_cons hf]; exact List.mem_cons_self))
        · exact nL o' hb
      · exact hn z
    have hbs : ∃ ob, s'.heap.get? b = some ob := by
      rcases hb with hb | ⟨o', hb⟩
      · cases q : H' b with
        | none => exact absurd q hb
        | some u => exact (x.hok b u q).there
      · exact ut.there b o' hb (by simp)
    obtain ⟨ob, e1⟩ := hbs
    have e2 := bigT b ob e1 hnL hb
    have e3 := fl.1 b ob e2
    rw [e] at e3
    cases e3
    exact e2
end
end L2
namespace L2
open PySem PySem.Spec PyProof.Rows
def Cx.hand (X : Cx) (a : Addr) : Cx := { X with A := X.A.mark (some (.ref a)), calm := false, xe := fun _ _ => False }
theorem Cx.Ok.hand {X : Cx} (ok : X.Ok) (a : Addr) : (X.hand a).Ok :=
  ⟨ok.mod, ok.kind, ok.glob, ok.blt, ok.above, ok.inj, ok.has, ok.cab, (fun z => nomatch z), ok.frames, ok.stk, ok.exf, ok.bs, ok.bsz, ok.noex, ok.exfs, ok.funs, ok.frf⟩
section
variable {X : Cx} {pins : List (Addr × Obj)} {σ : St} {H H' : Hp} {s s' : Shared} {a : Addr}
theorem Inv.hand (I : Inv X pins σ H s) (a : Addr) : Inv (X.hand a) pins σ H s := ⟨I.ok.hand a, I.os, I.bare, I.base, I.loc, I.cell, I.free, I.freeC, I.pin, I.hok, I.len⟩
theorem Inv.unhand (ok : X.Ok) (I : Inv (X.hand a) pins σ H s) : Inv X pins σ H s := ⟨ok, I.os, I.bare, I.base, I.loc, I.cell, I.free, I.freeC, I.pin, I.hok, I.len⟩
theorem Inv.track {o : HO} (I : Inv X pins σ H s) (hn : H a = none) (hnew : ∀ u, X.s₀.heap.get? a ≠ some u) (hok : ObjOk X.prog X.w (upd H a o) s.heap a o) (neL : a ≠ X.env.locals) (neC : ∀ x c, X.env.cells.lookup x = some c -> c ≠ a) (neP : ∀ p ∈ X.pn ++ pins, p.1 ≠ a) : Inv X pins σ (upd H a o) s := by
  have ne : ∀ {b : Addr} {u : HO}, H b = some u -> b ≠ a := fun e => ne_of_none e hn
  refine ⟨I.ok, I.os, I.bare, ⟨I.base.keep, I.base.slot, fun b u q n hx => ?_, I.base.there, fun b xs q => ?_, fun b u v q => ?_, fun b ps q => ?_⟩, I.loc, I.cell, ?_, fun x c e => ?_, fun p hp => ?_, fun b u q => ?_, I.len⟩
  · rw [upd_ne (fun z : b = a => hnew u (by rw [<- z]; exact q))]
    exact I.base.free b u q n hx
  · have := I.base.tups b xs q
    rw [upd_ne (ne this)]
    exact this
  · have := I.base.frzs b u v q
    rw [upd_ne (ne this)]
    exact this
  · obtain ⟨m, e⟩ := I.base.tbls b ps q
    exact ⟨m, by rw [upd_ne (ne e)]; exact e⟩
  · rw [upd_ne (Ne.symm neL)]
    exact I.free
  · rw [upd_ne (neC x c e)]
    exact I.freeC x c e
  · obtain ⟨e, n, y⟩ := I.pin p hp
    exact ⟨e, by rw [upd_ne (neP p hp)]; exact n, y⟩
  · by_cases hb : b = a
    · subst hb
      rw [upd_same] at q
      cases q
      exact hok
    · rw [upd_ne hb] at q
      exact (I.hok b u q).stay (fun _ _ _ z => z) (fun c z => by rw [upd_ne (ne z)]; exact z) fun c xs z => by rw [upd_ne (ne z)]; exact z
theorem Inv.gone {i : Nat} {x : Str} {h' : Heap} {v : Option Value} {m : Str -> Option Value} {tk : Nat} (I : Inv X pins σ H s) (hN : X.N.Nodup) (hi : X.N[i]? = some x) (hn : s.heap.Ns X.env.locals m)
    (hl : ∀ (i : Nat) (x : Str) (v : V), X.N[i]? = some x -> σ[i]? = some (some v) -> Vis X.env.scope x -> ∃ u, RelV v u /\ Look X.env s.heap m x u)
    (hn' : h'.Ns X.env.locals (fun y => if y = x then v else m y)) (hs : Heap.SameBut X.env.locals s.heap h') : Inv X pins (σ.set i none) H { s with heap := h', toks := tk } := by
  have cne := I.cne
  obtain ⟨oL, _, _, hoL, _⟩ := id hn
  refine ⟨I.ok, I.os, I.bare, ⟨fun b o e n hb hx => ?_, fun b o e n hb hx => ?_, I.base.free, fun b o e hx => ?_, I.base.tups, I.base.frzs, I.base.tbls⟩, ⟨_, hn', fun j y v' e1 e2 e3 => ?_⟩, fun y c e => ?_, I.free, I.freeC, fun p hp => ?_, fun b ob e => ?_, by simpa using I.len⟩
  · exact (hs.2 b (Nat.ne_of_lt (Nat.lt_of_lt_of_le (Heap.lt_size e) I.ok.above))).trans (I.base.keep b o e n hb hx)
  · obtain ⟨sl, e1⟩ := I.base.slot b o e n hb hx
    exact ⟨sl, (hs.2 b (Nat.ne_of_lt (Nat.lt_of_lt_of_le (Heap.lt_size e) I.ok.above))).trans e1⟩
  · obtain ⟨o', e1⟩ := I.base.there b o e hx
    exact ⟨o', (hs.2 b (Nat.ne_of_lt (Nat.lt_of_lt_of_le (Heap.lt_size e) I.ok.above))).trans e1⟩
  · by_cases hj : j = i
    · subst hj
      by_cases hlt : j < σ.length
      · rw [List.getElem?_set_self hlt] at e2; cases e2
      · rw [List.getElem?_eq_none (by simp; omega)] at e2; cases e2
    · rw [List.getElem?_set_ne (Ne.symm hj)] at e2
      obtain ⟨u', r', q⟩ := hl j y v' e1 e2 e3
      refine ⟨u', r', ?_⟩
      rcases q with ⟨k, e⟩ | ⟨k, c, e, z⟩
      · refine .inl ⟨k, ?_⟩
        have : y ≠ x := fun e => hj (nodup_ix hN e1 (e ▸ hi))
        simp [this, e]
      · exact .inr ⟨k, c, e, z.sameBut hs (cne y c e)⟩
  · obtain ⟨w', z⟩ := I.cell y c e
    exact ⟨w', z.sameBut hs (cne y c e)⟩
  · obtain ⟨e, n, ne, nf, d⟩ := I.pin p hp
    exact ⟨(hs.2 p.1 ne).trans e, n, ne, nf, d⟩
  · refine (I.hok b ob e).stay (fun c w' hc q => (hs.2 c ?_).trans q) (fun _ q => q) fun _ _ q => q
    rintro rfl
    rcases hc with rfl | hc
    · rw [I.free] at e; cases e
    · rw [I.free] at hc; cases hc
end
section
variable {P : Program} {w : World} {K : PySem.W.Frag} {mg : Str -> Option Value} {base : Heap} {N : List Str} {qual : Str} {scope : Scope} {f : Addr} {cd : Value} {A : Around} {outer : List Env} {s₀ : Shared} {H₀ : Hp} {E : XK}
end
section
variable {X : Cx} {k : Nat} {f Dc : Addr} {fd : FuncData} {ps : List Str} {sp : Sp} {x dn n : Str} {i : Nat} {p cpos epos np hpos pos : Pos} {e : Expr} {es : List Expr} {t : TA} {ts : TS} {b0 : Stmt} {suite : List Stmt}
end
end L2
namespace L2
open PySem PySem.Spec PySem.Calls PyProof.Rows PySem.W Builtin Builtin.ObjectAttr Builtin.Getset_descriptor
def ExcAt (a C : Addr) (h : Heap) : Prop := ∃ o, h.get? a = some o /\ o.cls = .ref C
section
variable {prog : Program} {w : World} {A : Around} {E : Value -> Shared -> Prop} {K : Frag} {a C : Addr} {s : Shared}
theorem excAt_ty {M : Model} {h : Heap} (p : ExcAt a C h) : Looks M h (typeOf (.ref a)) (.ref C) := by
  obtain ⟨o, h1, h2⟩ := p
  exact h2 ▸ (Looks.ld h1).andThen .now
theorem exc_class_get {R : Result -> Shared -> Prop} {tp : Value} (X : K.In s.heap) (I : ExcAt a C s.heap) (hm : mroIn K C (.type "object") = some true)
    (h : R (.ok (.ret (.ref C))) s) : codeAny (model prog w) A (.call (.builtin "getset_descriptor.__get__") ⟨[.builtin "object.__class__", .ref a, tp], []⟩) R s := by
  obtain ⟨hh, g, dr, t, os⟩ := s
  have L0 := excAt_ty (M := model prog w) I
  have L1 := looks_mroIn (M := model prog w) X hm
  refine codeAny_call_builtin KF.slot_gs.plain KF.entry_gs (KF.slot_gs.check _ _ _ _ _ _ _ _ KF.type_class (KF.args_gs _ _ _) ?_)
  unfold Builtin.«getset_descriptor.__get__» descrGet
  rw [dga_obj]
  refine wpAny_bind (wpAny_pure ?_)
  unfold descrGetter descrCheckInstance descrNameAndClass isInstance
  simp only [KF.owner_class]
  repeat lk
  refine ⟨Code.quiet_builtin _ (by decide +kernel), codeAny_builtin KF.entry_class ?_⟩
  unfold Builtin.«object.__class__» shownTypeOf
  repeat lk
  exact h
theorem exc_check_ga {M : Model} {nameV : Value} {Q : Unit -> Shared -> Prop} (X : K.In s.heap) (I : ExcAt a C s.heap) (hm : mroIn K C (.type "BaseException") = some true) (hq : Q () s) : wpAny M A (checkBuiltinCall "BaseException.__getattribute__" ⟨[.ref a, nameV], []⟩) Q E s := by
  obtain ⟨hh, g, dr, t, os⟩ := s
  have hk : builtinKind "BaseException.__getattribute__" = some .slot := by decide +kernel
  have hsplit : splitId "BaseException.__getattribute__" = some ("BaseException", "__getattribute__") := by decide +kernel
  have ha := F.args_bexc_ga (.ref a) nameV
  have L0 := excAt_ty (M := M) I
  have L1 := looks_mroIn (M := M) X hm
  simp only [checkBuiltinCall, hk, hsplit]
  refine wpAny_bind ?_
  unfold isInstance
  refine wpAny_bind (L0.at (L1.at ?_))
  repeat (first | assumption | wp_step)
end
section
variable {X : Cx}
theorem vals_refs : ∀ {ds : List Addr} {us : List Value}, Vals (ds.map V.ref) us -> us = ds.map Value.ref
  | [], _, r => by cases r; rfl
  | d :: ds, _, r => by
    rw [List.map_cons] at r
    cases r with
    | cons r1 r2 =>
      cases (show _ = Value.ref d from r1)
      rw [vals_refs r2]
      rfl
end
end L2
namespace L2
open PySem PySem.Spec PyProof.Rows
section
variable {X : Cx} {pins : List (Addr × Obj)} {σ : St} {H : Hp} {s : Shared}
end
section
variable {X : Cx} {pins : List (Addr × Obj)} {σ : St} {H : Hp} {s : Shared} {te : TE} {e : Expr} {pos : Pos} {k : Nat}
end
end L2
namespace L2
open PySem PySem.Spec PyProof.Rows
section
variable {X : Cx}
variable {k : Nat} {f Dc : Addr} {fd : FuncData} {ps : List Str} {sp : Sp} {x dn n : Str} {i : Nat} {p cpos epos np hpos pos : Pos} {e : Expr} {es : List Expr} {t : TA} {ts : TS} {b0 : Stmt} {suite : List Stmt}
end
end L2
namespace L2
open PySem PySem.Spec PyProof.Rows
section
variable {κ : Type} [DecidableEq κ]
theorem RelO.isSome_eq {o : Option V} {u : Option Value} (r : RelO o u) : o.isSome = u.isSome := by
  cases o with
  | none => cases u with
    | none => rfl
    | some _ => exact (show False from r).elim
  | some _ => cases u with
    | none => exact (show False from r).elim
    | some _ => rfl
end
theorem kV_is {P : Program} {w : World} {k : Key} {u : Value} (r : RelV (kV k) u) : (mixKind P w).is k u = true := by
  cases k with
  | inl i => obtain ⟨t, e⟩ := (show ∃ t, u = Value.int i t from r); subst e; exact mixKind_int P w i t
  | inr x => obtain ⟨t, e⟩ := (show ∃ t, u = Value.str x t from r); subst e; exact mixKind_str P w x t
theorem items_are {P : Program} {w : World} : ∀ {ks : List Key} {us : List Value}, Vals (ks.map kV) us -> ItemsAre (mixKind P w) ks us
  | [], _, r => by rw [List.map_nil] at r; cases r; exact .nil
  | k :: ks, _, r => by
    rw [List.map_cons] at r
    cases r with
    | cons h t => exact .cons (kV_is h) (items_are t)
section
variable {P : Program} {w : World} {H : Hp} {h : Heap} {a : Addr}
theorem key_of {ks : List Key} (ok : HOk P w H h) (e : H a = some (.tup (ks.map kV))) : (tupleKind (mixKind P w)).is h ks a := by
  obtain ⟨_, its, r, o, h1, h2, n, h3⟩ := (show ObjOk P w H h a (.tup (ks.map kV)) from ok a _ e)
  exact ⟨o, its.toArray, n, h1, h2, h3, by simpa using items_are r⟩
end
section
variable {X : Cx} {pins : List (Addr × Obj)} {σ : St} {H : Hp} {s : Shared} {a : Addr} {y v : V} {u r : Value} {o : Option V} {A : Around} {E : Value -> Shared -> Prop}
theorem Inv.big (I : Inv X pins σ H s) : sysModules < s.heap.objs.size := by
  have h : mainGlobals < s.heap.objs.size := (I.mod.glob.keeps I.bk).lt
  exact Nat.lt_trans (by decide) h
theorem d_write {h' : Heap} {t' : Nat} {ob : HO} (I : Inv X pins σ H s) (mu : Mut (H a)) (hs : Heap.SameBut a s.heap h') (he : ∃ q, h'.get? a = some q) (new : ObjOk X.prog X.w (upd H a ob) h' a ob) :
    Inv X pins σ (upd H a ob) { s with heap := h', toks := t' } :=
  I.write (x := a) (e := a) mu (.inl rfl) (fun b q hb z => (hs.2 b hb).trans z) he new
end
section
variable {X : Cx} {pins : List (Addr × Obj)} {σ : St} {H : Hp} {s : Shared} {a : Addr} {kvs : List (Key × V)} {k : Key} {u : Value} {A : Around} {E : Value -> Shared -> Prop}
end
def NoSl (i : Expr) : Prop := ∀ ov iv, subscripted i false ov iv = operate [ov, iv] (getItem ov iv)
theorem subD_of {prog : Program} {w : World} {A : Around} {E : Value -> Shared -> Prop} {s : Shared} {env : Env} {value slice : Expr} {pos : Pos} {T id : String} {Q : Value -> Shared -> Prop}
    (hl : typeLookup (.type T) "__getitem__" = pure (some (.builtin id))) (hs : NoSl slice)
    (h : wpAny (model prog w) A (eval value env) (fun o s₁ => wpAny (model prog w) A (eval slice env) (fun i s₂ => s₂.TypeIs o T /\ wpAny (model prog w) A (getItem o i) Q E s₂) E s₁) E s) :
    wpAny (model prog w) A (eval (.Subscript value slice pos) env) Q E s := by
  refine Subscript_ (wpAny_mono h (fun o s₁ h₁ => wpAny_mono h₁ (fun i s₂ h₂ => ?_) fun _ _ x => x) fun _ _ x => x)
  obtain ⟨hT, h₂⟩ := h₂
  unfold subscriptTail
  refine wpAny_bind ?_
  rw [getitemInPython_of_ne hT.not_modules]
  refine wpAny_bind (wpAny_specialOf hT hl ?_)
  have fin : wpAny (model prog w) A (subscripted slice false o i) (fun r s₃ => wpAny (model prog w) A (letTemporaryGo value o r >>= fun _ => pure r) Q E s₃) E s₂ := by
    rw [hs o i]
    exact wpAny_operating (wpAny_mono h₂ (fun r s₃ h₃ => wpAny_bind (wpAny_letTemporaryGo (wpAny_pure h₃))) fun _ _ x => x)
  first
    | exact wpAny_pure (wpAny_bind fin)
    | exact wpAny_bind (wpAny_pure (wpAny_bind fin))
    | exact wpAny_bind fin
section
variable {X : Cx} {o i e value : Expr} {pos pos' tpos : Pos} {td ty tv : TE}
end
section
variable {X : Cx} {pos : Pos}
end
section
variable {X : Cx} {pins : List (Addr × Obj)} {σ : St} {H : Hp} {s : Shared} {a : Addr} {y d : V} {u r : Value} {o : Option V} {A : Around} {E : Value -> Shared -> Prop}
end
section
variable {X : Cx} {o e f : Expr} {apos cpos : Pos} {td ty tx : TE}
end
section
variable {X : Cx} {pins : List (Addr × Obj)} {σ : St} {H : Hp} {s : Shared} {a : Addr} {kvs : List (Key × V)} {A : Around} {E : Value -> Shared -> Prop}
end
section
variable {X : Cx} {pins : List (Addr × Obj)} {σ : St} {H : Hp} {s : Shared} {a : Addr} {y : V} {u : Value} {A : Around} {E : Value -> Shared -> Prop}
end
end L2
namespace L2
open PySem PySem.Spec PyProof.Rows
section
variable {X : Cx}
end
section
variable {κ : Type} [DecidableEq κ]
end
end L2
namespace L2
open PySem PySem.Spec PyProof.Rows
section
variable {X : Cx}
end
end L2
namespace L2
open PySem PySem.Spec PyProof.Rows
section
variable {X : Cx} {tg : Expr}
end
end L2
namespace L2
open PySem PySem.Spec PySem.Calls PyProof.Rows Builtin Builtin.Str
section
variable {X : Cx}
end
end L2
namespace L2
open PySem PySem.Spec PySem.Calls PyProof.Rows Builtin Builtin.Tuple
section
variable {X : Cx}
end
end L2
namespace L2
open PySem PySem.Spec PyProof.Rows
section
variable {X : Cx} {pins : List (Addr × Obj)} {σ : St} {H : Hp} {s : Shared} {h' : Heap}
end
section
variable {X : Cx} {elts : List Expr} {k : Nat} {tpos : Pos}
end
end L2
namespace L2
open PySem PySem.Spec PyProof.Rows
theorem ps_setC {X : Cx} {elt iter : Expr} {ifs : List Expr} {sc : Scope} {pos px py spos : Pos} {t y : Str} {ys : List Str} {js : List Nat} {wi : TI} {tc : TT} {te : TE} {g : TG} (hc : X.calm = true) (hck : compChk X.N X.env.scope sc t ys js = true)
    (hi : PI X (.Name t px) iter wi) (hf : ∀ cl C s H fp, PIf (X.comp sc cl C (t :: ys) s H fp) ifs tc) (he : ∀ cl C s H fp, PE (X.comp sc cl C (t :: ys) s H fp) elt te) (hg : PG X (.Name y py) g)
    (hsw : swapsWith (.ListComp elt [⟨.Name t px, iter, ifs, 0⟩] sc pos) (some (.Name y py)) spos.line X.env = pure true) (hs : ∀ x, foldedSetIterable iter X.env x = pure x := by intro _; rfl) :
    PS X (.Assign [.Name y py] (.ListComp elt [⟨.Name t px, iter, ifs, 0⟩] sc pos) spos) (tAsg (tComp wi js tc te) g) := by
  have ck := compOk_of hck
  intro pins s σ H D0 I h
  have hfr : ∀ x, (x, NameKind.free) ∈ sc.names -> ∃ c, X.env.cells.lookup x = some c := fun x hx => I.ok.has x (.inl (ck.fre _ hx rfl))
  obtain ⟨cl, hcl, cl1, cl2⟩ := clos_ok hfr
  rw [exec_Assign_Name_used _ _ _ _ hsw]
  refine wpAny_bind (wpAny_standAt (wpAny_bind ?_))
  show wpAny _ X.A (do let _ <- comprehension (.ListComp elt [⟨.Name t px, iter, ifs, 0⟩] sc pos) sc X.env _ (newList []) false (eval iter X.env) (some (assign (.Name y py) X.env))) _ _ s
  refine wpAny_bind (wpAny_mono (wpAny_comprehension_free (use := some (assign (.Name y py) X.env)) (Q := fun _ s' => SP X pins D0 .next s') rfl hs hcl ck.kind ck.loc (thn (hi pins s σ H _ I h) fun v s1 h1 => thn h1 fun itv s2 h2 => ?_)) (fun _ s' hq => wpAny_pure (wpAny_pure hq)) fun _ _ e => e)
  obtain ⟨it, fp, tn, J, H2, e, I2, T, st2, f2, hR⟩ := h2
  subst e
  refine wpAny_newObj_type (wpAny_newFunctionEnv ck.ncell (by intro y hy; simp at hy) (fun h1 hns hsb => ?_) ck.kind)
  dsimp only at hns hsb ⊢
  generalize hp : s2.heap.push { cls := .type "list", dict := none, data := .seq ([] : List Value).toArray } = hh at hns hsb ⊢
  have hC : hh.objs.size = s2.heap.objs.size + 1 := by rw [<- hp, Heap.size_push]
  have neD : ∀ {b : Addr}, b < s2.heap.objs.size -> b ≠ s2.heap.objs.size := fun hb => Nat.ne_of_lt hb
  have neC : ∀ {b : Addr}, b < s2.heap.objs.size -> b ≠ hh.objs.size := fun hb => by rw [hC]; exact Nat.ne_of_lt (Nat.lt_succ_of_lt hb)
  have hDC : s2.heap.objs.size ≠ hh.objs.size := by rw [hC]; exact Nat.ne_of_lt (Nat.lt_succ_self _)
  have hCle : s2.heap.objs.size <= hh.objs.size := by rw [hC]; exact Nat.le_succ _
  have old : ∀ b o, s2.heap.get? b = some o -> h1.get? b = some o := fun b o e => hsb.extBut b o (neC (Heap.lt_size e)) (Heap.get?_push_of_some _ (hp ▸ Heap.get?_push_of_some _ e))
  have hnew : h1.get? s2.heap.objs.size = some { cls := .type "list", dict := none, data := .seq ([] : List Value).toArray } := hsb.extBut _ _ hDC (Heap.get?_push_of_some _ (hp ▸ Heap.get?_push_size _ rfl))
  have fpH : ∀ b ∈ fp, ∃ o, s2.heap.get? b = some o := fun b hb => let ⟨o, e, _⟩ := T.obj 0 _ st2 b hb; ⟨o, e⟩
  have fpD : ∀ b ∈ fp, b ≠ s2.heap.objs.size := fun b hb => by obtain ⟨o, e⟩ := fpH b hb; exact neD (Heap.lt_size e)
  have fpC : ∀ b ∈ fp, b ≠ hh.objs.size := fun b hb => by obtain ⟨o, e⟩ := fpH b hb; exact neC (Heap.lt_size e)
  have fpS : ∀ b ∈ fp, b ∉ frs X.stack := fun b hb z => (List.mem_cons.mp (I2.stkSub b z)).elim (f2 b hb).2.1 (f2 b hb).2.2.1
  have hok' : (X.comp sc cl hh.objs.size (t :: ys) s2 H2 fp).Ok := by
    refine ⟨I2.ok.mod, ck.kind, I2.ok.glob, I2.ok.blt, hCle, fun x y c a b => I2.ok.inj x y c (cl1 x c a) (cl1 y c b), fun x hx => ?_, (fun x c z => nomatch z), I2.ok.hd, I2.ok.frames, .inl rfl, fun b hb => ⟨fpC b hb, fun x c a => (f2 b hb).2.2.2.2.1 x c (cl1 x c a)⟩,
      I2.bs, Nat.le_trans I2.ok.bsz I2.sz, fun b o e hb => ?_, fun b hb => fpS b hb, I2.stack, I2.stkFree⟩
    · have hx' : (sc.names.map fun (n, k) => if (k == NameKind.free && X.env.scope.kind == .function && X.env.kindOf n == some .cell) then (n, NameKind.cell) else (n, k)).lookup x = some .cell \/ (sc.names.map fun (n, k) => if (k == NameKind.free && X.env.scope.kind == .function && X.env.kindOf n == some .cell) then (n, NameKind.cell) else (n, k)).lookup x = some .free := hx
      rcases hx' with z | z
      · rcases relabel_inv z with q | ⟨_, q⟩
        · exact absurd rfl (ck.ncell _ (PySem.mem_of_lookup q))
        · exact cl2 x (PySem.mem_of_lookup q)
      · rcases relabel_inv z with q | ⟨q, _⟩
        · exact cl2 x (PySem.mem_of_lookup q)
        · cases q
    · rcases (f2 b hb).2.2.2.1 with z | z
      · exact I2.ok.noex b o e z
      · exact absurd (Nat.lt_of_lt_of_le (Heap.lt_size e) (Nat.le_trans I2.ok.bsz z)) (Nat.lt_irrefl _)
  have Iin : ∀ tk : Nat, Inv (X.comp sc cl hh.objs.size (t :: ys) s2 H2 fp) [] (none :: compS js σ) (upd H2 s2.heap.objs.size (.lst [])) { s2 with heap := h1, toks := tk } := fun tk => by
    refine ⟨hok', rfl, I2.bare, Un.laid old (Nat.le_refl _) I2.fresh, ⟨_, hns, fun i x v e1 e2 e3 => ?_⟩, fun x c e => ?_, ?_, fun x c e => ?_, fun p hp => absurd (show p ∈ ([] : List (Addr × Obj)) from hp) (by simp), I2.hok.laid old (Nat.le_refl _) ⟨Nat.zero_le _, [], 0, .nil, hnew⟩, ?_⟩
    · cases i with
      | zero => simp at e2
      | succ k =>
        have e1' : ys[k]? = some x := e1
        have e2' : (compS js σ)[k]? = some (some v) := by simpa using e2
        unfold compS at e2'
        rw [List.getElem?_map] at e2'
        have q := congrArg (fun l => l[k]?) ck.ysj
        simp only [List.getElem?_map, e1', Option.map_some] at q
        cases hj : js[k]? with
        | none => rw [hj] at q; cases q
        | some j =>
          rw [hj] at q e2'
          have q1 : X.N[j]? = some x := (Option.some.inj q).symm
          have q2 : σ[j]? = some (some v) := by
            have z : (σ[j]?).join = some v := Option.some.inj e2'
            cases hz : σ[j]? with
            | none => rw [hz] at z; cases z
            | some y => rw [hz] at z; exact congrArg some z
          have hf' := ck.ysf x (List.mem_of_getElem? e1')
          have hcell := ck.fre _ (PySem.mem_of_lookup hf') rfl
          obtain ⟨m2, hn2, hl2⟩ := I2.loc
          obtain ⟨u, ru, lk⟩ := hl2 j x v q1 q2 (.inr (.inl hcell))
          refine ⟨u, ru, ?_⟩
          rcases lk with ⟨kk, _⟩ | ⟨_, c, ec, ic⟩
          · have kk' : X.env.scope.names.lookup x = some .local := kk
            have hcell' : X.env.scope.names.lookup x = some .cell := hcell
            rw [hcell'] at kk'; cases kk'
          · obtain ⟨c', ec'⟩ := cl2 x (PySem.mem_of_lookup hf')
            have : c' = c := Option.some.inj ((cl1 x c' ec').symm.trans ec)
            subst this
            refine .inr ⟨relabel_free hf', c', ec', ?_⟩
            obtain ⟨o, ho, hd⟩ := ic
            exact ⟨o, old _ o ho, hd⟩
    · obtain ⟨v, o, ho, hd⟩ := I2.cell x c (cl1 x c e)
      exact ⟨v, o, old _ o ho, hd⟩
    · show upd H2 s2.heap.objs.size _ hh.objs.size = none
      rw [upd_ne (Ne.symm hDC)]
      exact I2.hok.fresh hCle
    · obtain ⟨v, o, ho, hd⟩ := I2.cell x c (cl1 x c e)
      rw [upd_ne (neD (Heap.lt_size ho))]
      exact I2.freeC x c (cl1 x c e)
    · show (none :: compS js σ).length = (t :: ys).length
      have q := congrArg List.length ck.ysj
      simp only [List.length_map] at q
      unfold compS
      simp only [List.length_cons, List.length_map]
      omega
  have st1 : tn 0 h1 := T.keep _ _ _ st2 fun b hb o e => old b o e
  obtain ⟨W, ⟨m0, w0⟩, turn⟩ := hR s2.heap.objs.size I2.fresh
  have fpok : ∀ {H' : Hp}, (∀ b ∈ fp, H' b = none) -> ∀ b ∈ fp, FpOk (X.comp sc cl hh.objs.size (t :: ys) s2 H2 fp) [] H' b := fun hn b hb =>
    ⟨hn b hb, fpC b hb, fpS b hb, .inl hb, fun x c a => (f2 b hb).2.2.2.2.1 x c (cl1 x c a), fun p hp => absurd (show p ∈ ([] : List (Addr × Obj)) from hp) (by simp)⟩
  have ndN : (t :: ys).Nodup := ck.nd
  have loop : ∀ s3 : Shared, s3 = { s2 with heap := h1, toks := s2.toks + ([] : List (Str × Value)).length } ->
      codeAny (model X.prog X.w) X.A (.compLoop (.ListComp elt [⟨.Name t px, iter, ifs, 0⟩] sc pos) 0 (.ref it) (.ref s2.heap.objs.size) (compEnvC sc cl hh.objs.size X.env))
        (compPost (model X.prog X.w) X.A X.xe (some (assign (.Name y py) X.env)) (fun _ s' => SP X pins D0 .next s') (.ref s2.heap.objs.size) hh.objs.size) s3 := by
    rintro s3 rfl
    refine comp_turns (fun n s' => ∃ i acc H', Inv (X.comp sc cl hh.objs.size (t :: ys) s2 H2 fp) [] (none :: compS js σ) H' s' /\ tn i s'.heap /\ (∀ b ∈ fp, H' b = none) /\ W i n acc H') ?_ m0
      ⟨0, [], _, Iin _, st1, fun b hb => by rw [upd_ne (fpD b hb)]; exact (f2 b hb).1, w0⟩
    rintro n s3 ⟨i, acc, H3, I3, st3, fr3, w3⟩
    obtain ⟨hD, hz, alt⟩ := turn i n acc H3 w3
    rcases alt with ⟨stop, q⟩ | ⟨go, step⟩
    · refine thn (T.done (X.comp sc cl hh.objs.size (t :: ys) s2 H2 fp) rfl rfl rfl hc i [] s3 _ H3 _ I3 (fpok fr3) st3 stop) fun r s4 ⟨hr, I4⟩ => ?_
      subst hr
      obtain ⟨m, hn, _⟩ := id I4.loc
      have ltC : ∀ b o, s2.heap.get? b = some o -> b ≠ hh.objs.size := fun b o e => neC (Heap.lt_size e)
      have b4 : Un (frs X.stack) fp H2 H3 s2.heap s4.heap := I4.base
      have I5 : Inv X pins σ H3 s4 := I2.call' (s' := s4) (ch := fp) I4.os ⟨fun b o e n1 n2 n3 => b4.keep b o e n1 n2 n3, fun b o e n1 n2 n3 => b4.slot b o e n1 n2 n3, b4.free, fun b o e n1 => b4.there b o e n1, b4.tups, b4.frzs, b4.tbls⟩ (fun b ob e => I4.hok b ob e) I4.bare
        (fun b hb => ⟨(f2 b hb).2.2.2.1, (f2 b hb).2.1, (f2 b hb).2.2.2.2.1, (f2 b hb).2.2.2.2.2⟩)
      have fC : FpOk X pins H3 hh.objs.size := I2.fpOk hCle I4.free
      obtain ⟨oC, es, ep, hoC, dC, rC⟩ := id hn
      have I6 : Inv X (pins ++ [(hh.objs.size, oC)]) σ H3 s4 := I5.pins_of fun p hp => (List.mem_append.mp hp).elim (fun z => I5.pin p (List.mem_append_right _ z)) fun z => by
        rw [List.mem_singleton.mp z]
        exact ⟨hoC, fC.1, fC.2.1, fC.2.2.1, fun v z => by rw [dC] at z; cases z⟩
      show wpAny _ X.A (assign (.Name y py) X.env (.ref s2.heap.objs.size)) _ _ s4
      refine thn (hg _ s4 σ H3 (.ref s2.heap.objs.size) _ _ I6 rfl q) fun _ s7 ⟨σ7, H7, I7, q7⟩ => ?_
      obtain ⟨p1, p2, p3, p4, p5⟩ := I7.pin (hh.objs.size, oC) (List.mem_append_right _ (List.mem_append_right _ (List.mem_singleton.mpr rfl)))
      refine ⟨m, ⟨oC, es, ep, p1, dC, rC⟩, fun h' sb => ⟨σ7, H7, ?_, q7⟩⟩
      exact I7.unpinned.turned (t' := s7.toks) (fun b o hb e => (sb.2 b hb).trans e) p2 p3 fC.2.2.2.1 fC.2.2.2.2.1 fC.2.2.2.2.2
    · refine thn (T.item (X.comp sc cl hh.objs.size (t :: ys) s2 H2 fp) rfl rfl rfl hc i [] s3 _ H3 _ I3 (fpok fr3) st3 go) fun r s4 ⟨u, hr, h4⟩ => ?_
      subst hr
      refine thn h4 fun _ s5 ⟨x, H5, I5, r5, y5, st5, fr5⟩ => ?_
      have I5' := I5.pinned (fpok fr5) (T.obj _ _ st5)
      refine wpAny_assign_Name (store_ok (i := 0) I5' ndN rfl (.inl (lookup_relabel_local ck.tl)) r5 (fun s6 I6 => ?_) (.inr (lookup_relabel_local ck.tl)))
      have again : ∀ {H7 : Hp} {s7 : Shared} {m' : Nat} {acc' : List V}, Inv (X.comp sc cl hh.objs.size (t :: ys) s2 H2 fp) ([] ++ pinsAt fp s5.heap) (some x :: compS js σ) H7 s7 -> m' < n -> W (i + 1) m' acc' H7 ->
          ∃ m, m < n /\ ∃ i acc H', Inv (X.comp sc cl hh.objs.size (t :: ys) s2 H2 fp) [] (none :: compS js σ) H' s7 /\ tn i s7.heap /\ (∀ b ∈ fp, H' b = none) /\ W i m acc H' := fun {H7 s7 m' acc'} I7 hm w7 => by
        refine ⟨m', hm, i + 1, acc', H7, (I7.unpinned).weak rfl (fun k v e => ?_), T.keep _ _ _ st5 fun b hb o e => (I7.pin (b, o) (List.mem_append_right _ (List.mem_append_right _ (mem_pinsAt hb e)))).1, fun b hb => ?_, w7⟩
        · cases k with
          | zero => simp at e
          | succ k => simpa using e
        · obtain ⟨o, e, d⟩ := T.obj _ _ st5 b hb
          exact (I7.pin (b, o) (List.mem_append_right _ (List.mem_append_right _ (mem_pinsAt hb e)))).2.1
      refine thn (hf _ _ _ _ _ _ s6 _ H5 _ I6 (step x H5 y5)) fun ok s7 ⟨H7, I7, q7⟩ => ?_
      cases ok with
      | false =>
        obtain ⟨m', hm, w7⟩ := q7
        exact again I7 hm w7
      | true =>
        refine thn (he _ _ _ _ _ _ s7 _ H7 _ I7 q7) fun uy s8 ⟨y, H8, I8, r8, hD8, m', hm, w8⟩ => ?_
        refine thn (mt_append (X := X.comp sc cl hh.objs.size (t :: ys) s2 H2 fp) _ s8 _ H8 (.ref s2.heap.objs.size) [y] (.ref s2.heap.objs.size) [uy] (fun _ H9 => W (i + 1) m' (acc ++ [y]) H9) I8 rfl (.cons r8 .nil) ⟨_, acc, y, rfl, rfl, hD8, hz, w8⟩) fun _ s9 ⟨_, H9, I9, _, q9⟩ => ?_
        exact again I9 hm q9
  exact codeAny_compStart_list (loop _ rfl) (T.self _ 0 _ _ _ st1 (loop _ rfl))
theorem qs_setC {X : Cx} {elt iter : Expr} {ifs : List Expr} {sc : Scope} {pos px py spos : Pos} {t y : Str} {ys : List Str} {js : List Nat} {wi : TI} {tc : TT} {te : TE} {g : TG} (hc : X.calm = true) (hck : compChk X.N X.env.scope sc t ys js = true)
    (hi : QI X (.Name t px) iter wi) (hf : ∀ cl C s H fp, QIf (X.comp sc cl C (t :: ys) s H fp) ifs tc) (he : ∀ cl C s H fp, QE (X.comp sc cl C (t :: ys) s H fp) elt te) (hg : QG X (.Name y py) g)
    (hsw : swapsWith (.ListComp elt [⟨.Name t px, iter, ifs, 0⟩] sc pos) (some (.Name y py)) spos.line X.env = pure true) (hs : ∀ x, foldedSetIterable iter X.env x = pure x := by intro _; rfl) :
    QS X (.Assign [.Name y py] (.ListComp elt [⟨.Name t px, iter, ifs, 0⟩] sc pos) spos) (tAsg (tComp wi js tc te) g) := ⟨ps_setC hc hck hi.h (fun cl C s H fp => (hf cl C s H fp).h) (fun cl C s H fp => (he cl C s H fp).h) hg.h hsw hs⟩
end L2
namespace L2
open PySem PySem.Spec PyProof.Rows
section
variable {K : PySem.W.Frag} {a : Addr} {xs ys : List V} {js : List Nat} {g : TG} {n : Nat} {te : TE} {σ : St} {Q : VK} {D : Addr} {H1 : Hp}
end
end L2
namespace L2
open PySem PySem.Spec PyProof.Rows
section
variable {prog : Program} {w : World} {A : Around} {E : Value -> Shared -> Prop} {s : Shared}
end
section
variable {X : Cx} {e : Expr} {te : TE} {p1 p2 q1 q2 : Pos}
end
end L2
namespace TM
open PySem L2
end TM
namespace L2
open PySem PySem.Spec PyProof.Rows
section
variable {X : Cx} {o e value a : Expr} {f : Str} {pos pos' tpos : Pos} {ta tv : TE}
theorem qt_isN {j : Nat} (ha : QE X a ta) : QT X (.Compare a [.Is] [.Constant .none j pos'] pos) (tB (tIsN ta)) := ⟨pt_cmp (pc_isN ha.h)⟩
theorem qt_notN {j : Nat} (ha : QE X a ta) : QT X (.Compare a [.IsNot] [.Constant .none j pos'] pos) (tB (tNotN ta)) := ⟨pt_cmp (pc_notN ha.h)⟩
end
section
variable {X : Cx} {CX : CXT} {k : Nat} {f C : Addr} {fd : FuncData} {ps : List Str} {sp : Sp} {ds : List Value} {dvs : List V} {E : XK} {x m : Str} {p pos apos : Pos} {e o : Expr} {es : List Expr} {ta : TE} {t : TA}
end
end L2
namespace TM
open PySem L2
end TM
namespace TM
open PySem L2
open PySem.Builtin.Str (strSub occurrences partsBetween)
end TM
namespace L2
open PySem PySem.Spec PyProof.Rows
open PySem.Builtin.Str (strSub occurrences)
section
variable {X : Cx}
end
section
variable {X : Cx} {tg : Expr}
end
end L2
namespace TM
open PySem L2
inductive L2R {α : Type} (R : α -> V -> Prop) : List α -> List V -> Prop
  | nil : L2R R [] []
  | cons {a : α} {v : V} {as : List α} {vs : List V} : R a v -> L2R R as vs -> L2R R (a :: as) (v :: vs)
namespace L2R
variable {α : Type} {R R' : α -> V -> Prop}
theorem imp (h : ∀ a v, R a v -> R' a v) : ∀ {as : List α} {vs : List V}, L2R R as vs -> L2R R' as vs
  | _, _, .nil => .nil
  | _, _, .cons x y => .cons (h _ _ x) (imp h y)
theorem len : ∀ {as : List α} {vs : List V}, L2R R as vs -> vs.length = as.length
  | _, _, .nil => rfl
  | _, _, .cons _ y => by rw [List.length_cons, List.length_cons, len y]
theorem get : ∀ {as : List α} {vs : List V} {i : Nat} {v : V}, L2R R as vs -> vs[i]? = some v -> ∃ a, as[i]? = some a /\ R a v
  | _, _, i, v, .nil, e => by simp at e
  | _, _, 0, v, .cons (a := a) x y, e => by
    simp at e
    subst e
    exact ⟨a, rfl, x⟩
  | _, _, i + 1, v, .cons x y, e => by
    obtain ⟨b, hb, r⟩ := get (i := i) y (by simpa using e)
    exact ⟨b, by simpa using hb, r⟩
theorem app : ∀ {as bs : List α} {vs us : List V}, L2R R as vs -> L2R R bs us -> L2R R (as ++ bs) (vs ++ us)
  | _, _, _, _, .nil, g => g
  | _, _, _, _, .cons x y, g => .cons x (app y g)
theorem one {a : α} {v : V} (h : R a v) : L2R R [a] [v] := .cons h .nil
theorem snoc {as : List α} {vs : List V} {a : α} {v : V} (h : L2R R as vs) (g : R a v) : L2R R (as ++ [a]) (vs ++ [v]) := h.app (one g)
end L2R
section
variable {H H' : Hp}
end
end TM
namespace L2
open PySem PySem.Spec PyProof.Rows TM
theorem take_snocA {α : Type} {xs : List α} {i : Nat} {x : α} (h : xs[i]? = some x) : xs.take (i + 1) = xs.take i ++ [x] := by
  rw [List.take_succ, h]
  rfl
section
variable {K : PySem.W.Frag} {a : Addr} {xs : List V} {js : List Nat} {g : TG} {n : Nat} {te : TE} {σ : St} {Q : VK} {D : Addr} {H1 : Hp} {α : Type} {R : Hp -> α -> V -> Prop} {as : List α}
end
end L2
namespace L2
open PySem PySem.Spec PyProof.Rows
end L2
namespace L2
open PySem PySem.Spec PyProof.Rows
section
variable {prog : Program} {w : World} {A : Around} {E : Value -> Shared -> Prop} {s : Shared}
end
end L2
namespace L2
open PySem PySem.Spec PyProof.Rows
section
variable {prog : Program} {w : World} {A : Around} {E : Value -> Shared -> Prop} {s : Shared}
end
section
variable {X : Cx} {e : Expr} {te : TE} {p1 p2 q1 q2 : Pos}
end
end L2
namespace L2
open PySem PySem.Spec PyProof.Rows
section
variable {X : Cx} {elts : List Expr} {k : Nat} {tpos : Pos}
end
end L2
namespace L2
open PySem PySem.Spec PyProof.Rows
section
variable {X : Cx}
end
end L2
namespace L2
open PySem PySem.Spec PyProof.Rows
section
variable {X : Cx}
theorem op_neNil (hu : X.A.units + 64 < cLine) : OpR X (compareOp .NotEq) (fun x y H Q => ∃ a b xs, x = .ref a /\ y = .ref b /\ SqL X.K H a xs /\ SqL X.K H b [] /\ Q (.bl (!decide (xs = []))) H) := by
  intro pins s σ H x y v u Q I rx ry h
  obtain ⟨a, b, xs, e1, e2, ha, hb, q⟩ := h
  by_cases hx : xs = []
  · subst hx
    refine op_neD hu pins s σ H x y v u Q I rx ry ⟨a, b, [], [], [], [], e1, e2, .inr ⟨ha, hb⟩, isds_nil, isds_nil, by unfold depDs; omega, ?_⟩
    have e : (!(eqDs [] [])) = !decide (([] : List V) = []) := by unfold eqDs; rfl
    rw [e]
    exact q
  · subst e1 e2
    cases rx
    cases ry
    obtain ⟨us, r1, p1, _⟩ := I.list ha
    obtain ⟨ws, r2, p2, _⟩ := I.list hb
    cases r2
    have hne : us ≠ [] := fun z => hx ((Vals.nil_iff r1).mp z)
    refine SeqAt.RcNeAt.lists_lengths p1.isList p2.isList (by simpa using hne) (by omega) _ _ _ _ ⟨.bl _, H, I, ?_, q⟩
    rw [decide_eq_false hx]
    rfl
theorem qs_augS {o i e : Expr} {to ti te : TE} {tget : V -> V -> Hp -> VK -> Prop} {tip : TIp} {tset : TSet} {op : Operator} {tpos pos : Pos} (ho : QE X o to) (hi : QE X i ti) (hg : PGet X tget) (he : QE X e te) (hp : PIp X op tip) (hs : PSet X tset)
    (ha : ∀ ov iv new, augStore i ov iv new = (do holding [new, ov, iv] (setItem ov iv new); release [new, ov, iv] []; pure .next) := by intros; rfl) : QS X (.AugAssign (.Subscript o i tpos) op e pos) (tAugS to ti te tget tip tset) := ⟨ps_augS ho.h hi.h hg he.h hp hs ha⟩
end
section
variable {X : Cx} {tg e : Expr} {te : TE} {p q : Pos}
end
section
variable {prog : Program} {w : World} {A : Around} {E : Value -> Shared -> Prop} {s : Shared}
end
section
variable {X : Cx} {tg e : Expr} {te : TE} {p1 p2 q1 q2 : Pos}
end
end L2
namespace L2
open PySem PySem.Spec PyProof.Rows
section
variable {X : Cx} {Dc : Addr} {dn n : Str} {i : Nat} {np hpos : Pos} {ts : TS} {b0 : Stmt} {suite : List Stmt} {pins : List (Addr × Obj)} {σ : St} {H1 : Hp} {s1 s' : Shared} {D : Ends} {ev : Value} {Q : Flow -> Shared -> Prop}
variable {k : Nat} {f : Addr} {fd : FuncData} {ps : List Str} {sp : Sp} {x : Str} {p cpos epos : Pos} {e : Expr} {es : List Expr} {t : TA} {EX : XK} {N : Hp -> Prop} {H : Hp} {s : Shared}
end
section
variable {X : Cx} {Dc : Addr} {dn n : Str} {i : Nat} {np hpos pos ipos : Pos} {ts : TS} {b0 : Stmt} {suite : List Stmt} {c : Expr} {tc : TT}
  {k1 k2 : Nat} {f1 f2 : Addr} {fd1 fd2 : FuncData} {ps1 ps2 : List Str} {sp1 sp2 : Sp} {x1 x2 : Str} {p1 p2 c1 c2 q1 q2 : Pos} {e1 e2 : Expr} {es1 es2 : List Expr} {t1 t2 : TA}
end
end L2
namespace L2
open PySem PySem.Spec PyProof.Rows
section
variable {prog : Program} {w : World} {A : Around} {E : Value -> Shared -> Prop} {s : Shared}
end
section
variable {X : Cx} {elts : List Expr} {k : Nat} {tpos : Pos}
end
end L2
namespace L2
open PySem PySem.Spec PyProof.Rows
end L2
namespace L2
open PySem PySem.Spec PyProof.Rows
section
variable {prog : Program} {w : World} {A : Around} {E : Value -> Shared -> Prop} {s : Shared}
end
section
variable {X : Cx} {elts : List Expr} {k : Nat} {tpos : Pos}
end
end L2
namespace L2
open PySem PySem.Spec PyProof.Rows
section
variable {X : Cx}
end
end L2
namespace L2
open PySem PySem.Spec PyProof.Rows
section
variable {prog : Program} {w : World} {A : Around} {E : Value -> Shared -> Prop} {s : Shared}
end
section
variable {X : Cx} {e : Expr} {te : TE} {p1 p2 q1 q2 : Pos}
end
end L2
namespace TR
open PySem L2 TM
section
variable {most n : Nat} {R : Nat -> Rw} {tr : Nat -> Tr}
end
end TR
namespace L2
open PySem PySem.Spec PyProof.Rows
section
variable {X : Cx} {C a : Addr} {cls a0 fl fl' : Value} {H' : Hp} {B h' : Heap} {s' : Shared}
end
section
variable {P : Program} {w : World} {K : PySem.W.Frag} {mg : Str -> Option Value} {base : Heap} {N : List Str} {qual : Str} {scope : Scope} {f : Addr} {cd : Value} {A : Around} {outer : List Env} {s₀ : Shared} {H₀ : Hp} {E : XK}
end
end L2
namespace L2
open PySem PySem.Spec PyProof.Rows
section
variable {X : Cx} {k : Nat} {f Dc : Addr} {fd : FuncData} {ps : List Str} {sp : Sp} {x dn n y : Str} {i j : Nat} {p cpos epos np hpos pos yp : Pos} {e : Expr} {es : List Expr} {t : TA} {ts : TS} {b0 : Stmt} {suite : List Stmt}
end
end L2
namespace L2
open PySem PySem.Spec PyProof.Rows
structure Det {α : Type} (t : Sem α) : Prop where
  out : ∀ (M : Model) (Γ : PySem.Ctx) (Q Q' : α -> Pos -> Shared -> Prop) (E E' : Value -> Pos -> Shared -> Prop) (p : Pos) (s : Shared), Sem.wp M Γ t Q E p s -> Sem.wp M Γ t Q' E' p s -> Sem.wp M Γ t (fun a p s => Q a p s /\ Q' a p s) (fun e p s => E e p s /\ E' e p s) p s
namespace Det
variable {α β : Type}
theorem pure (a : α) : Det (Pure.pure a : Sem α) := ⟨fun _ _ _ _ _ _ _ _ h h' => ⟨h, h'⟩⟩
theorem unsupported (w : String) : Det (PySem.unsupported w : Sem α) := ⟨fun _ _ _ _ _ _ _ _ h _ => h.elim⟩
theorem bind {m : Sem α} {f : α -> Sem β} (hm : Det m) (hf : ∀ a, Det (f a)) : Det (m >>= f) := ⟨fun M Γ Q Q' E E' p s h h' => by
  rw [Sem.wp_bind'] at h h' ⊢
  exact Sem.wp_mono M Γ m (fun a p' s' x => (hf a).out M Γ Q Q' E E' p' s' x.1 x.2) (fun _ _ _ x => x) p s (hm.out M Γ _ _ E E' p s h h')⟩
theorem ite {c : Prop} [Decidable c] {t u : Sem α} (ht : Det t) (hu : Det u) : Det (if c then t else u) := by split <;> assumption
theorem load (a : Addr) : Det (PySem.load a) := ⟨fun _ _ _ _ _ _ _ _ h h' => by
  unfold PySem.load at h h' ⊢
  rw [Sem.wp_load] at h h' ⊢
  obtain ⟨o, e, q⟩ := h
  obtain ⟨o', e', q'⟩ := h'
  rw [e] at e'
  cases e'
  exact ⟨o, e, q, q'⟩⟩
theorem update (a : Addr) (f : Obj -> Obj) : Det (PySem.update a f) := ⟨fun _ _ _ _ _ _ _ _ h h' => ⟨h.1, h.2, h'.2⟩⟩
theorem stack : Det PySem.stack := ⟨fun _ _ _ _ _ _ _ _ h h' => ⟨h, h'⟩⟩
theorem alloc (o : Obj) : Det (PySem.alloc o) := ⟨fun _ _ _ _ _ _ _ _ h h' => ⟨h, h'⟩⟩
theorem field (v : Value) (i : Nat) : Det (PySem.field v i) := ⟨fun M Γ Q Q' E E' p s h h' => by
  rw [wp_field_iff] at h h' ⊢
  obtain ⟨a, o, vs, x, rfl, ho, hd, hx, q⟩ := h
  obtain ⟨a', o', vs', x', e', ho', hd', hx', q'⟩ := h'
  cases e'
  rw [ho] at ho'
  cases ho'
  rw [hd] at hd'
  cases hd'
  rw [hx] at hx'
  cases hx'
  exact ⟨a, o, vs, x, rfl, ho, hd, hx, q, q'⟩⟩
theorem setField (v : Value) (i : Nat) (x : Value) : Det (PySem.setField v i x) := ⟨fun M Γ Q Q' E E' p s h h' => by
  rw [wp_setField_iff] at h h' ⊢
  obtain ⟨a, o, vs, rfl, ho, hd, hi, q⟩ := h
  obtain ⟨a', o', vs', e', ho', hd', hi', q'⟩ := h'
  cases e'
  exact ⟨a, o, vs, rfl, ho, hd, hi, q, q'⟩⟩
end Det
theorem det_behind (env : Env) (outer : List Env) : Det (behindIsImport env outer) := by
  unfold behindIsImport
  repeat' with_reducible first | assumption | exact Det.pure _ | exact Det.unsupported _ | exact Det.field _ _ | exact Det.setField _ _ _ | exact Det.load _ | exact Det.update _ _ | exact Det.stack | exact Det.alloc _ | apply Det.ite | apply Det.bind | intro _ | split
theorem det_under : Det underTheClaimsCaller := by
  unfold underTheClaimsCaller
  repeat' with_reducible first | assumption | exact Det.pure _ | exact Det.unsupported _ | exact Det.field _ _ | exact Det.setField _ _ _ | exact Det.load _ | exact Det.update _ _ | exact Det.stack | exact Det.alloc _ | apply Det.ite | apply Det.bind | intro _ | split
theorem det_kept (env : Env) (i : Bool) (l : List Env) : Det (keptBack env i l) := by
  have := det_under
  cases l <;> unfold keptBack <;> (repeat' with_reducible first | assumption | exact Det.pure _ | exact Det.unsupported _ | exact Det.field _ _ | exact Det.setField _ _ _ | exact Det.load _ | exact Det.update _ _ | exact Det.stack | exact Det.alloc _ | apply Det.ite | apply Det.bind | intro _ | split)
theorem det_ready : ∀ l : List Env, Det (readyFrames l)
  | [] => Det.pure _
  | env :: outer => by
    have ih := det_ready outer
    have h1 := det_behind env outer
    have h2 := fun i => det_kept env i outer
    unfold readyFrames
    repeat' with_reducible first | assumption | exact Det.pure _ | exact Det.unsupported _ | exact Det.field _ _ | exact Det.setField _ _ _ | exact Det.load _ | exact Det.update _ _ | exact Det.stack | exact Det.alloc _ | apply Det.ite | apply Det.bind | intro _ | split
    all_goals first | exact h2 _ | skip
theorem det_frameObject (l : List Env) : Det (frameObject l) := by
  cases l with
  | nil => exact Det.pure _
  | cons env outer =>
    have := det_ready (env :: outer)
    unfold frameObject
    repeat' with_reducible first | assumption | exact Det.pure _ | exact Det.unsupported _ | exact Det.field _ _ | exact Det.setField _ _ _ | exact Det.load _ | exact Det.update _ _ | exact Det.stack | exact Det.alloc _ | apply Det.ite | apply Det.bind | intro _ | split
theorem det_frameEnvs : Det frameEnvs := by
  unfold frameEnvs
  repeat' with_reducible first | assumption | exact Det.pure _ | exact Det.unsupported _ | exact Det.field _ _ | exact Det.setField _ _ _ | exact Det.load _ | exact Det.update _ _ | exact Det.stack | exact Det.alloc _ | apply Det.ite | apply Det.bind | intro _ | split
theorem det_frameOf (env : Env) : Det (PySem.frameOf env) := by
  have h1 := det_frameEnvs
  have h2 := det_frameObject
  unfold PySem.frameOf
  repeat' with_reducible first | assumption | exact Det.pure _ | exact Det.unsupported _ | exact Det.field _ _ | exact Det.setField _ _ _ | exact Det.load _ | exact Det.update _ _ | exact Det.stack | exact Det.alloc _ | apply Det.ite | apply Det.bind | intro _ | split
  all_goals first | exact h2 _ | skip
theorem det_entryPlace (f : Addr) (b : Bool) : Det (entryPlaceOf f b) := by
  unfold entryPlaceOf
  repeat' with_reducible first | assumption | exact Det.pure _ | exact Det.unsupported _ | exact Det.field _ _ | exact Det.setField _ _ _ | exact Det.load _ | exact Det.update _ _ | exact Det.stack | exact Det.alloc _ | apply Det.ite | apply Det.bind | intro _ | split
theorem det_newEntry (a b c d e : Value) (l : List Value) : Det (EntryCells.newEntry a b c d e l) := by
  unfold EntryCells.newEntry newFields newObj newObjAsIs
  repeat' with_reducible first | assumption | exact Det.pure _ | exact Det.unsupported _ | exact Det.field _ _ | exact Det.setField _ _ _ | exact Det.load _ | exact Det.update _ _ | exact Det.stack | exact Det.alloc _ | apply Det.ite | apply Det.bind | intro _ | split
theorem det_note (e : Value) (env : Env) : Det (noteFrame e env) := by
  have h1 := det_frameOf env
  have h2 := det_entryPlace
  have h3 := det_newEntry
  unfold noteFrame
  repeat' with_reducible first | assumption | exact Det.pure _ | exact Det.unsupported _ | exact Det.field _ _ | exact Det.setField _ _ _ | exact Det.load _ | exact Det.update _ _ | exact Det.stack | exact Det.alloc _ | apply Det.ite | apply Det.bind | intro _ | split
  all_goals first | exact h2 _ _ | exact h3 _ _ _ _ _ _ | skip
theorem det_flight (e : Value) (o : Option Addr) : Det (setFlight e o) := by
  unfold setFlight
  repeat' with_reducible first | assumption | exact Det.pure _ | exact Det.unsupported _ | exact Det.field _ _ | exact Det.setField _ _ _ | exact Det.load _ | exact Det.update _ _ | exact Det.stack | exact Det.alloc _ | apply Det.ite | apply Det.bind | intro _ | split
theorem det_leaving (e : Value) (env : Env) : Det (leaving env e) := by
  have h1 := det_note e env
  have h2 := det_flight e
  unfold leaving
  repeat' with_reducible first | assumption | exact Det.pure _ | exact Det.unsupported _ | exact Det.field _ _ | exact Det.setField _ _ _ | exact Det.load _ | exact Det.update _ _ | exact Det.stack | exact Det.alloc _ | apply Det.ite | apply Det.bind | intro _ | split
  all_goals first | exact h2 _ | skip
theorem both {α : Type} {M : Model} {A : Around} {t : Sem α} {Q Q' : α -> Shared -> Prop} {E E' : Value -> Shared -> Prop} {s : Shared} (d : Det t) (h : wpAny M A t Q E s) (h' : wpAny M A t Q' E' s) : wpAny M A t (fun a s => Q a s /\ Q' a s) (fun e s => E e s /\ E' e s) s :=
  fun Γ p hΓ => d.out M Γ _ _ _ _ p s (h Γ p hΓ) (h' Γ p hΓ)
section
variable {M : Model} {A : Around} {E : Value -> Shared -> Prop} {s : Shared}
end
section
variable {P : Program} {w : World} {K : PySem.W.Frag} {mg : Str -> Option Value} {base : Heap} {N : List Str} {qual : Str} {scope : Scope} {f : Addr} {cd : Value} {A : Around} {outer : List Env} {s₀ : Shared} {H₀ : Hp} {E : XK}
end
section
variable {prog : Program} {w : World} {A : Around} {E : Value -> Shared -> Prop} {s : Shared} {env : Env}
variable {nm q : Str} {C N : Addr} {bs bm bmB : List Value} {hdc : Bool} {sn : List Str} {sbc : List Value} {ab : Bool} {clt : Option Bool} {dd : Option Addr} {k0 k1 k2 k3 k5 : Option Value} {B newId initId : String}
end
section
variable {X : Cx} {pins : List (Addr × Obj)} {σ : St} {H H' : Hp} {s s' : Shared} {M : Model} {E' : Value -> Shared -> Prop} {a : Addr} {cls : Value}
end
section
variable {P : Program} {w : World} {K : PySem.W.Frag} {mg : Str -> Option Value} {base : Heap} {N : List Str} {qual : Str} {scope : Scope} {f : Addr} {cd : Value} {A : Around} {outer : List Env} {s₀ : Shared} {H₀ : Hp} {E : XK}
end
section
variable {X : Cx} {k : Nat} {f Dc C2 : Addr} {fd : FuncData} {ps : List Str} {sp : Sp} {x dn cn : Str} {p cpos epos np hpos pos cnp cpos2 rpos2 kp : Pos} {ck : Nat} {e e2 : Expr} {es es2 : List Expr} {t t2 : TA} {EX : Hp -> Prop}
end
section
variable {P : Program} {w : World} {K : PySem.W.Frag} {mg : Str -> Option Value} {base : Heap}
end
end L2
namespace L2
open PySem PySem.Spec PyProof.Rows
end L2
namespace TM
open PySem L2
end TM
namespace L2
open PySem PySem.Spec PyProof.Rows TM
section
variable {X : Cx} {K : PySem.W.Frag} {e : Expr} {te : TE} {p1 p2 q1 q2 : Pos}
end
section
variable {K : PySem.W.Frag} {a : Addr} {xs : List V} {js : List Nat} {te : TE} {σ : St} {Q : VK} {D : Addr} {H1 : Hp} {α : Type} {R : Hp -> α -> V -> Prop} {as : List α}
end
end L2
namespace L2
open PySem PySem.Spec PyProof.Rows
end L2
namespace L2
open PySem PySem.Spec PyProof.Rows
def pinO (d : Addr) (o : Obj) : HO := .ext fun h => h.get? d = some o
theorem pin_ok {P : Program} {w : World} {H : Hp} {h : Heap} {d : Addr} {o : Obj} (e : h.get? d = some o) : ObjOk P w H h d (pinO d o) := ⟨e, ⟨o, e⟩, fun _ _ a k => k o a⟩
theorem pin_at {P : Program} {w : World} {H : Hp} {h : Heap} {d : Addr} {o : Obj} (ok : HOk P w H h) (e : H d = some (pinO d o)) : h.get? d = some o := (show ObjOk P w H h d (pinO d o) from ok d _ e).1
section
variable {P : Program} {w : World} {A : Around} {E : Value -> Shared -> Prop} {s : Shared} {it d : Addr} {o : Obj} {es : Array DictEntry} {i n ep : Nat} {ok ov : Value}
end
section
variable {P : Program} {w : World} {K : PySem.W.Frag} {elts : List Expr} {k : Nat} {tpos : Pos}
end
section
variable {X : Cx} {elts : List Expr} {k : Nat} {tpos : Pos} {e : Expr} {te : TE} {apos cpos : Pos}
end
section
variable {X : Cx} {e : Expr} {te : TE} {apos cpos : Pos}
end
end L2
namespace L2
open PySem PySem.Spec PyProof.Rows
section
variable {prog : Program} {w : World} {A : Around} {E : Value -> Shared -> Prop} {s : Shared}
end
section
variable {X : Cx} {e : Expr} {te : TE} {p1 p2 q1 q2 : Pos}
end
section
variable {X : Cx}
end
end L2
namespace L2
open PySem PySem.Spec PyProof.Rows TM
section
variable {K : PySem.W.Frag} {a : Addr} {xs : List V} {js : List Nat} {g : TG} {n : Nat} {te : TE} {σ : St} {Q : VK} {D : Addr} {H1 : Hp} {α : Type} {R : Hp -> α -> V -> Prop} {as : List α}
end
end L2
namespace L2
open PySem PySem.Spec PyProof.Rows
section
variable {P : Program} {w : World} {A : Around} {E : Value -> Shared -> Prop} {s : Shared}
end
section
variable {X : Cx} {e : Expr} {te : TE} {p1 p2 q1 q2 : Pos}
end
end L2
namespace L2
open PySem PySem.Spec PyProof.Rows
section
variable {P : Program} {w : World} {A : Around} {E : Value -> Shared -> Prop}
end
end L2
namespace L2
open PySem PySem.Spec PyProof.Rows
end L2
namespace L2
open PySem PySem.Spec PyProof.Rows
section
variable {prog : Program} {w : World} {A : Around} {E : Value -> Shared -> Prop} {s : Shared}
end
end L2
namespace L2
open PySem PySem.Spec PyProof.Rows
section
variable {prog : Program} {w : World} {K N : Type} [DecidableEq K] [DecidableEq N] (κ : HeapKind prog w K) (ν : KeyKind prog w N)
def IsPair (h : Heap) (k : K × N) (a : Addr) : Prop := ∃ o b v n, h.get? a = some o /\ o.cls = .type "tuple" /\ o.data = .seq #[.ref b, v] n /\ κ.is h k.1 b /\ ν.is k.2 v = true
def pairHash (k : K × N) : Int := reduceHash (Builtin.Tuple.tupleHashOf [κ.hash k.1, ν.hash k.2])
variable {κ ν}
theorem IsPair.typeIs {s : Shared} {k : K × N} {a : Addr} (x : IsPair κ ν s.heap k a) : s.TypeIs (.ref a) "tuple" := let ⟨o, _, _, _, ho, hc, _⟩ := x; ⟨o, ho, hc⟩
theorem IsPair.inj {h : Heap} {a : Addr} {x y : K × N} (hx : IsPair κ ν h x a) (hy : IsPair κ ν h y a) : x = y := by
  obtain ⟨o, b, v, n, e1, _, d1, k1, n1⟩ := hx
  obtain ⟨o', b', v', n', e2, _, d2, k2, n2⟩ := hy
  rw [e1] at e2
  cases e2
  rw [d1] at d2
  cases d2
  exact Prod.ext (κ.inj k1 k2) (ν.inj _ _ _ n1 n2)
theorem IsPair.keeps {h h' : Heap} {k : K × N} {a d : Addr} {o : Obj} {es ep} (x : IsPair κ ν h k a) (ho : h.get? d = some o) (hd : o.data = .dict es ep) (hs : Heap.SameBut d h h') : IsPair κ ν h' k a := by
  obtain ⟨o', b, v, n, e1, c1, d1, k1, n1⟩ := x
  refine ⟨o', b, v, n, (hs.2 a fun z => ?_).trans e1, c1, d1, κ.keeps k1 ho hd hs, n1⟩
  rw [z, ho] at e1
  cases e1
  rw [hd] at d1
  cases d1
variable {A : Around} {E : Value -> Shared -> Prop} {s : Shared}
theorem pyHash_pair {k : K × N} {a : Addr} {Q : Int -> Shared -> Prop} (hu : A.units + 64 < cLine) (hr : ∀ A' : Around, A'.units <= A.units + 16 -> κ.room A') (x : IsPair κ ν s.heap k a) (q : Q (pairHash κ ν k) { s with toks := s.toks + (κ.draws k.1 + 2) }) :
    wpAny (model prog w) A (pyHash (.ref a)) Q E s := by
  have ty := x.typeIs
  obtain ⟨o, b, v, n, e1, _, d1, k1, n1⟩ := x
  unfold pyHash
  first | unfold pyHashByItsType | skip
  first | refine wpAny_bind (wpAny_cRoomFor_or (.inr (by omega)) ?_) | skip
  refine wpAny_bind (wpAny_specialOf ty F.slot_tuple_hash.lookup ?_)
  show wpAny _ _ (if (some (Value.builtin "tuple.__hash__") == some Value.none) = true then _ else _) Q E s
  rw [if_neg (by rw [beq_builtin_none]; exact Bool.false_ne_true)]
  refine wpAny_bind (wpAny_specialOf ty F.slot_tuple_hash.lookup ?_)
  show wpAny _ _ (callSpecialIfBoundUnlessNone? (.ref a) "__hash__" _ >>= _) Q E s
  refine wpAny_bind (wpAny_callSpecialIfBoundUnlessNone?_slot ty F.slot_tuple_hash (wpAny_call_entry F.slot_tuple_hash ty F.entry_tuple_hash ?_ (F.args_tuple_hash_1 _)))
  show wpAny _ _ (Builtin.Tuple.tupleItemsOf (.ref a) >>= _) _ _ s
  refine wpAny_bind (wpAny_tupleItemsOf e1 d1 (wpAny_bind ?_))
  rw [<- Array.forIn_toList]
  show wpAny _ _ (forIn [Value.ref b, v] _ _) _ _ _
  rw [List.forIn_cons]
  refine wpAny_bind (wpAny_bind (κ.pyHash (hr _ (by show A.in1.units <= _; first | exact Nat.le_add_right _ _ | (unfold Around.in1; dsimp only; omega))) k1 (wpAny_pure ?_)))
  dsimp only
  rw [List.forIn_cons]
  refine wpAny_bind (wpAny_bind (ν.pyHash n1 (wpAny_pure ?_)))
  dsimp only
  rw [List.forIn_nil]
  refine wpAny_pure ?_
  show wpAny _ _ (retInt (Builtin.Tuple.tupleHashOf [κ.hash k.1, ν.hash k.2])) _ _ _
  refine wpAny_ret_mkInt ?_
  unfold pairHash reduceHash at q
  generalize Builtin.Tuple.tupleHashOf [κ.hash k.1, ν.hash k.2] = z at q ⊢
  show wpAny _ _ (if (decide (-(2 : Int) ^ 63 <= z) && decide (z < 2 ^ 63)) = true then _ else _) Q E _
  split at q
  · rename_i hz
    rw [if_pos hz]
    exact wpAny_pure (by simpa [Nat.add_assoc] using q)
  · rename_i hz
    rw [if_neg hz]
    exact wpAny_bind (wpAny_rule (wpAny_pure (by simpa [Nat.add_assoc] using q)))
theorem pair_eq {x y : K × N} {a b : Addr} {P : Fin -> Shared -> Prop} (hr : κ.room A) (hx : IsPair κ ν s.heap x a) (hy : IsPair κ ν s.heap y b) (q : P (.done (.ret (.bool (decide (x = y))))) s) :
    wpAny (model prog w) A (Builtin.«tuple.__eq__» ⟨[.ref a, .ref b], []⟩) P E s := by
  have ty := hy.typeIs
  obtain ⟨oa, ba, va, na, e1, _, d1, k1, n1⟩ := hx
  obtain ⟨ob, bb, vb, nb, e2, _, d2, k2, n2⟩ := hy
  show wpAny _ _ (isInstance (.ref b) (.type "tuple") >>= _) _ _ s
  refine wpAny_bind (wpAny_isInstance ty isSubtype_tuple_tuple ?_)
  simp only [Bool.not_true, Bool.false_eq_true, if_false]
  refine wpAny_bind (wpAny_tupleItemsOf e1 d1 (wpAny_bind (wpAny_tupleItemsOf e2 d2 (wpAny_bind ?_))))
  show wpAny _ _ (forIn [(Value.ref ba, Value.ref bb), (va, vb)] _ _) _ _ _
  have out : ∀ c : Bool, c = decide (x = y) -> P (.done (.ret (.bool c))) s := fun c e => by rw [e]; exact q
  rw [List.forIn_cons]
  refine wpAny_bind (wpAny_bind (κ.eqBool hr k1 k2 ?_))
  by_cases h1 : x.1 = y.1
  · rw [decide_eq_true h1]
    simp only [Bool.not_true, Bool.false_eq_true, if_false]
    refine wpAny_pure ?_
    dsimp only
    rw [List.forIn_cons]
    refine wpAny_bind (wpAny_bind (ν.eqBool n1 n2 ?_))
    by_cases h2 : x.2 = y.2
    · rw [decide_eq_true h2]
      simp only [Bool.not_true, Bool.false_eq_true, if_false]
      refine wpAny_pure ?_
      dsimp only
      rw [List.forIn_nil]
      exact wpAny_pure (wpAny_pure (out true (decide_eq_true (Prod.ext h1 h2)).symm))
    · rw [decide_eq_false h2]
      simp only [Bool.not_false, if_true]
      exact wpAny_bind (wpAny_pure (wpAny_pure (wpAny_pure (wpAny_pure (out false (decide_eq_false fun z => h2 (by rw [z])).symm)))))
  · rw [decide_eq_false h1]
    simp only [Bool.not_false, if_true]
    exact wpAny_bind (wpAny_pure (wpAny_pure (wpAny_pure (wpAny_pure (out false (decide_eq_false fun z => h1 (by rw [z])).symm)))))
theorem eqBool_pair {x y : K × N} {a b : Addr} {Q : Bool -> Shared -> Prop} (hu : A.units + 64 < cLine) (hr : ∀ A' : Around, A'.units <= A.units + 16 -> κ.room A') (hx : IsPair κ ν s.heap x a) (hy : IsPair κ ν s.heap y b) (q : Q (decide (x = y)) s) :
    wpAny (model prog w) A (eqBool (.ref a) (.ref b)) Q E s := by
  unfold eqBool
  try with_reducible refine wpAny_holding ?_
  show wpAny _ _ (if (Value.ref a == Value.ref b) = true then _ else _) Q E s
  by_cases hab : (Value.ref a == Value.ref b) = true
  · rw [if_pos hab]
    have e := eq_of_beq hab
    cases e
    have e := hx.inj hy
    cases e
    exact wpAny_bind (wpAny_rule (wpAny_pure (by simpa using q)))
  · rw [if_neg hab]
    exact wpAny_bind (wpAny_richCompare_same_room (op := .Eq) hx.typeIs hy.typeIs F.slot_tuple_eq (wpAny_call_entry F.slot_tuple_eq hx.typeIs F.entry_tuple_eq (pair_eq (hr _ (by show A.in1.units <= _; first | exact Nat.le_add_right _ _ | (unfold Around.in1; dsimp only; omega))) hx hy ⟨_, rfl, (fun e => nomatch e), wpAny_truthy_bool q⟩) (F.args_tuple_eq_2 _ _)) (by omega))
end
section
variable {prog : Program} {w : World} {A : Around} {E : Value -> Shared -> Prop} {s : Shared}
theorem quiet_tup {K : Type} [DecidableEq K] {knd : KeyKind prog w K} {ks : List K} {a : Addr} {Q : Bool -> Shared -> Prop} (m : Nat) (x : IsTupleKey knd s.heap ks a) (q : Q true s) : wpAny (model prog w) A (eqIsQuiet (m + 1) (.ref a)) Q E s := by
  have ty := x.typeIs
  obtain ⟨o, items, n, e1, _, d1, all⟩ := x
  unfold eqIsQuiet
  refine wpAny_bind (wpAny_specialOf ty F.slot_tuple_eq.lookup ?_)
  show wpAny _ _ (isInstance (.ref a) (.type "tuple") >>= _) _ _ s
  refine wpAny_bind (wpAny_isInstance ty isSubtype_tuple_tuple ?_)
  simp only [Bool.not_true, Bool.false_eq_true, if_false]
  refine wpAny_bind (wpAny_seqItems e1 d1 (wpAny_bind ?_))
  show wpAny _ _ (forIn items _ _) _ _ s
  rw [<- Array.forIn_toList]
  refine wpAny_forIn_list _ (fun rest r s' => r.1 = none /\ s' = s /\ ∀ v ∈ rest, carriedByValue v = true) _ (fun v rest r s' => ?_) (fun r s' => ?_) _ _ ⟨rfl, rfl, all.byValue⟩
  · rintro ⟨_, rfl, h⟩
    rw [eqIsQuiet_byValue _ (h v List.mem_cons_self)]
    refine wpAny_bind (wpAny_pure ?_)
    simp only [Bool.not_true, Bool.false_eq_true, if_false]
    exact wpAny_pure ⟨rfl, rfl, fun u hu => h u (List.mem_cons_of_mem _ hu)⟩
  · rintro ⟨hr, rfl, _⟩
    obtain ⟨r1, r2⟩ := r
    cases hr
    exact wpAny_pure q
theorem quiet_pair {K N : Type} [DecidableEq K] [DecidableEq N] {knd : KeyKind prog w K} {ν : KeyKind prog w N} {k : List K × N} {a : Addr} {Q : Bool -> Shared -> Prop} (x : IsPair (tupleKind knd) ν s.heap k a) (q : Q true s) : wpAny (model prog w) A (eqIsQuiet 8 (.ref a)) Q E s := by
  have ty := x.typeIs
  obtain ⟨o, b, v, n, e1, _, d1, k1, n1⟩ := x
  have k1 : IsTupleKey knd s.heap k.1 b := k1
  unfold eqIsQuiet
  refine wpAny_bind (wpAny_specialOf ty F.slot_tuple_eq.lookup ?_)
  show wpAny _ _ (isInstance (.ref a) (.type "tuple") >>= _) _ _ s
  refine wpAny_bind (wpAny_isInstance ty isSubtype_tuple_tuple ?_)
  simp only [Bool.not_true, Bool.false_eq_true, if_false]
  refine wpAny_bind (wpAny_seqItems e1 d1 (wpAny_bind ?_))
  show wpAny _ _ (forIn (#[Value.ref b, v] : Array Value) _ _) _ _ s
  rw [<- Array.forIn_toList]
  show wpAny _ _ (forIn [Value.ref b, v] _ _) _ _ _
  rw [List.forIn_cons]
  refine wpAny_bind (wpAny_bind (quiet_tup 6 k1 ?_))
  simp only [Bool.not_true, Bool.false_eq_true, if_false]
  refine wpAny_pure ?_
  dsimp only
  rw [List.forIn_cons]
  refine wpAny_bind (wpAny_bind ?_)
  rw [eqIsQuiet_byValue _ (ν.byValue _ _ n1)]
  refine wpAny_pure ?_
  simp only [Bool.not_true, Bool.false_eq_true, if_false]
  refine wpAny_pure ?_
  dsimp only
  rw [List.forIn_nil]
  exact wpAny_pure (wpAny_pure q)
def spotKind (prog : Program) (w : World) : HeapKind prog w (List Key × Key) where
  is := IsPair (tupleKind (mixKind prog w)) (mixKind prog w)
  hash := pairHash (tupleKind (mixKind prog w)) (mixKind prog w)
  draws := fun k => k.1.length + 1 + 2
  room := fun A => A.units + 64 < cLine
  inj := fun hx hy => hx.inj hy
  keeps := fun x ho hd hs => x.keeps ho hd hs
  pyHash := fun hu hk h => pyHash_pair hu (fun A' hA => show A'.units < cLine by omega) hk h
  eqBool := fun hu hx hy h => eqBool_pair hu (fun A' hA => show A'.units < cLine by omega) hx hy h
  quiet := fun hk h => quiet_pair hk h
end
end L2
namespace L2
open PySem PySem.Spec PyProof.Rows
abbrev SpK := List Key × Key
def keyS (H : Hp) (k : SpK) (a : Addr) : Prop := ∃ b, H a = some (.tup [.ref b, kV k.2]) /\ H b = some (.tup (k.1.map kV))
theorem keyS.same {H H' : Hp} (e : ∀ b ys, H b = some (.tup ys) -> H' b = some (.tup ys)) {k : SpK} {a : Addr} (h : keyS H k a) : keyS H' k a := by
  obtain ⟨b, h1, h2⟩ := h
  exact ⟨b, e _ _ h1, e _ _ h2⟩
theorem key_spot {P : Program} {w : World} {H : Hp} {h : Heap} {k : SpK} {a : Addr} (ok : HOk P w H h) (e : keyS H k a) : (spotKind P w).is h k a := by
  obtain ⟨b, h1, h2⟩ := e
  obtain ⟨_, its, r, o, e1, e2, n, e3⟩ := (show ObjOk P w H h a (.tup [.ref b, kV k.2]) from ok a _ h1)
  cases r with
  | cons r1 r =>
    cases r with
    | cons r2 r =>
      cases r
      cases r1
      exact ⟨o, b, _, n, e1, e2, e3, key_of ok h2, kV_is r2⟩
section
variable {X : Cx} {pins : List (Addr × Obj)} {σ : St} {H : Hp} {s : Shared} {a b : Addr} {v : V} {r : Value} {xs : List (SpK × Addr × V)} {k : SpK} {A : Around} {E : Value -> Shared -> Prop}
end
end L2
namespace L2
open PySem PySem.Spec PyProof.Rows
def RawD (h : Heap) (d : Addr) (es : Array DictEntry) (ep : Nat) : Prop := ∃ o, h.get? d = some o /\ o.ExactDict /\ o.data = .dict es ep
theorem RawD.typeIs {s : Shared} {d : Addr} {es : Array DictEntry} {ep : Nat} (x : RawD s.heap d es ep) : s.TypeIs (.ref d) "dict" := let ⟨o, e, c, _⟩ := x; ⟨o, e, c.1⟩
theorem RawD.to {h h' : Heap} {d : Addr} {es : Array DictEntry} {ep : Nat} (x : RawD h d es ep) (k : ∀ o, h.get? d = some o -> h'.get? d = some o) : RawD h' d es ep := let ⟨o, e, r⟩ := x; ⟨o, k _ e, r⟩
section
variable {prog : Program} {w : World} {A : Around} {E : Value -> Shared -> Prop} {s : Shared} {d it : Addr} {es : Array DictEntry} {ep i : Nat}
theorem raw_iter {Q : Value -> Shared -> Prop} (ns : (d == sysModules) = false) (m : RawD s.heap d es ep)
    (q : Q (.ref s.heap.objs.size) { s with heap := s.heap.push { cls := .type "dict_keyiterator", data := .fields #[.ref d, .int 0 0, .int es.size 0, .int ep 0] } }) : wpAny (model prog w) A (pyIter (.ref d)) Q E s := by
  have ty := m.typeIs
  obtain ⟨o, e1, _, e3⟩ := m
  refine wpAny_pyIter_slot ty F.slot_dict_iter (wpAny_call_entry F.slot_dict_iter ty F.entry_dict_iter ?_ (F.args_dict_iter_1 _))
  unfold Builtin.«dict.__iter__» Builtin.Dict.dictSlotNone
  refine wpAny_bind (wpAny_bind (wpAny_notOrdered_dict ty (wpAny_pure ?_)))
  show wpAny _ _ (Builtin.Dict.showsAll d >>= _) _ _ s
  unfold Builtin.Dict.showsAll
  rw [if_neg (by rw [ns]; exact Bool.false_ne_true)]
  exact wpAny_bind (wpAny_pure (wpAny_bind (wpAny_dictEntries e1 e3 (wpAny_bind (wpAny_dictEpoch e1 e3 (wpAny_bind (wpAny_newObj_type (wpAny_pure ⟨_, rfl, "dict_keyiterator", _, ⟨_, Heap.get?_push_size _ rfl, rfl⟩, F.slot_dict_keyiterator_next.lookup, by simpa [rawInt] using q⟩))))))))
theorem raw_next {e : DictEntry} {Q : Option Value -> Shared -> Prop} (hi : s.heap.IsKeyIter it d i es.size ep) (m : RawD s.heap d es ep) (hx : es[i]? = some e)
    (q : ∀ h', h'.IsKeyIter it d (i + 1) es.size ep -> Heap.SameBut it s.heap h' -> Q (some e.key) { s with heap := h' }) : wpAny (model prog w) A (pyNext (.ref it)) Q E s := by
  have ti := hi.typeIs
  obtain ⟨o, e1, e2, e3⟩ := id hi
  obtain ⟨od, d1, d2, d3⟩ := m
  have hlt := (Array.getElem?_eq_some_iff.mp hx).1
  have hev := (Array.getElem?_eq_some_iff.mp hx).2
  have hown : Builtin.Dict_items.ownsTuple "dict_keyiterator" = false := by decide
  unfold pyNext
  refine wpAny_bind (wpAny_attempt (wpAny_callSpecial?_slot (name := Str.ofString "__next__") ti F.slot_dict_keyiterator_next (wpAny_call_entry F.slot_dict_keyiterator_next ti F.entry_dict_keyiterator_next ?_ (F.args_dict_keyiterator_next_1 _))))
  refine wpAny_bind (wpAny_pure (wpAny_bind (wpAny_bind ?_)))
  first | refine wpAny_bind (wpAny_typeNameOfWhole_keyiter ti (wpAny_pure ?_)) | refine wpAny_bind (wpAny_typeNameOf_keyiter ti (wpAny_pure ?_))
  refine wpAny_bind (wpAny_fieldsOf e1 e3 ?_)
  simp only [hown, Bool.false_eq_true, if_false]
  show wpAny _ _ (if (Value.ref d == Value.none) = true then _ else _) _ _ s
  rw [if_neg (by exact Bool.false_ne_true)]
  refine wpAny_bind (wpAny_pure (wpAny_bind (wpAny_dictEntries d1 d3 ?_)))
  rw [if_neg (by simp)]
  refine wpAny_bind (wpAny_pure (wpAny_bind (wpAny_dictEpoch d1 d3 ?_)))
  rw [if_neg (by simp)]
  refine wpAny_pure ?_
  simp only [show ¬ ((i : Int) < 0) from by omega, if_false, Int.toNat_natCast, hx]
  refine wpAny_bind ?_
  first | refine wpAny_bind (wpAny_typeNameOfWhole_keyiter ti (wpAny_pure ?_)) | refine wpAny_bind (wpAny_typeNameOf_keyiter ti (wpAny_pure ?_))
  refine wpAny_bind (wpAny_isOneOf_keyiter ti ?_)
  show wpAny _ _ (setField (.ref it) 1 (rawInt ((i : Int) + 1)) >>= _) _ _ s
  refine wpAny_bind (wpAny_setField e1 e3 (by simp) (wpAny_bind (wpAny_holding ?_)))
  have hi' : (s.heap.update it (Obj.mapFields (·.setIfInBounds 1 (rawInt ((i : Int) + 1))))).IsKeyIter it d (i + 1) es.size ep := ⟨_, Heap.get?_update_self _ e1 (Obj.isFreed_of_fields (Obj.data_mapFields e3 _)), (Obj.cls_mapFields ..).trans e2, by rw [Obj.data_mapFields e3]; simp [rawInt]⟩
  refine wpAny_bind (wpAny_isOneOf_keyiter (s := { s with heap := s.heap.update it (Obj.mapFields (·.setIfInBounds 1 (rawInt ((i : Int) + 1)))) }) hi'.typeIs ?_)
  show wpAny _ _ (pure e.key) _ _ _
  exact wpAny_pure (wpAny_pure ⟨_, rfl, wpAny_pure (q _ hi' (Heap.SameBut.update ..))⟩)
theorem raw_end {Q : Option Value -> Shared -> Prop} (hh : A.handled = none) (hi : s.heap.IsKeyIter it d es.size es.size ep) (m : RawD s.heap d es ep)
    (q : ∀ h', Heap.ExtBut it s.heap h' -> Q none { s with heap := h' }) : wpAny (model prog w) A (pyNext (.ref it)) Q E s := by
  have ti := hi.typeIs
  obtain ⟨o, e1, e2, e3⟩ := id hi
  obtain ⟨od, d1, d2, d3⟩ := m
  have hown : Builtin.Dict_items.ownsTuple "dict_keyiterator" = false := by decide
  have hx : es[es.size]? = none := by simp
  unfold pyNext
  refine wpAny_bind (wpAny_attempt (wpAny_callSpecial?_slot (name := Str.ofString "__next__") ti F.slot_dict_keyiterator_next (wpAny_call_entry F.slot_dict_keyiterator_next ti F.entry_dict_keyiterator_next ?_ (F.args_dict_keyiterator_next_1 _))))
  refine wpAny_bind (wpAny_pure (wpAny_bind (wpAny_bind ?_)))
  first | refine wpAny_bind (wpAny_typeNameOfWhole_keyiter ti (wpAny_pure ?_)) | refine wpAny_bind (wpAny_typeNameOf_keyiter ti (wpAny_pure ?_))
  refine wpAny_bind (wpAny_fieldsOf e1 e3 ?_)
  simp only [hown, Bool.false_eq_true, if_false]
  show wpAny _ _ (if (Value.ref d == Value.none) = true then _ else _) _ _ s
  rw [if_neg (by exact Bool.false_ne_true)]
  refine wpAny_bind (wpAny_pure (wpAny_bind (wpAny_dictEntries d1 d3 ?_)))
  rw [if_neg (by simp)]
  refine wpAny_bind (wpAny_pure (wpAny_bind (wpAny_dictEpoch d1 d3 ?_)))
  rw [if_neg (by simp)]
  refine wpAny_pure ?_
  simp only [show ¬ ((es.size : Int) < 0) from by omega, if_false, Int.toNat_natCast, hx]
  refine wpAny_bind ?_
  first | refine wpAny_bind (wpAny_typeNameOfWhole_keyiter ti (wpAny_pure ?_)) | refine wpAny_bind (wpAny_typeNameOf_keyiter ti (wpAny_pure ?_))
  show wpAny _ _ (setField (.ref it) 0 .none >>= _) _ _ s
  refine wpAny_bind (wpAny_setField e1 e3 (by simp) ?_)
  show wpAny _ _ (newExc (.type "StopIteration") [] >>= _) _ _ _
  refine wpAny_bind ?_
  simp only [newExc, newTuple]
  refine wpAny_bind (wpAny_newObj_type ?_ (by size_fits))
  refine wpAny_bind (m := firstArgMember _ _) (wpAny_of_eq (a := Value.none) (by first | rfl | (simp only [firstArgMember]; rfl)) (wpAny_newObj_type ?_ (by size_fits)))
  simp only [raiseNew]
  refine wpAny_bind (wpAny_handled ?_)
  rw [show A.in1.handled = none from hh]
  refine wpAny_bind (wpAny_pure (wpAny_throw ?_))
  refine wpAny_bind (wpAny_isInstance (T := "StopIteration") (b := true) ⟨_, Heap.get?_push_size _ rfl, rfl⟩ isSubtype_stop ?_)
  exact wpAny_pure (q _ (((Heap.SameBut.update ..).extBut.push _).push _))
theorem walks_raw (hh : A.handled = none) (I d : Addr) (hne : d ≠ I) (es : Array DictEntry) (ep : Nat) :
    Walks prog w A I [I, d] [I] es.size (fun i v => ∃ e, es[i]? = some e /\ v = e.key) (fun i h => h.IsKeyIter I d i es.size ep /\ RawD h d es ep) where
  sub := fun b hb => by simp at hb; simp [hb]
  frame := fun _ _ _ st hk => ⟨st.1.at fun o e => hk I (by simp) o e, st.2.to fun o e => hk d (by simp) o e⟩
  item := fun i s Q E hi st hQ => by
    obtain ⟨e, hx⟩ : ∃ e, es[i]? = some e := ⟨es[i], by simp [hi]⟩
    exact raw_next st.1 st.2 hx fun h' k' sb => hQ e.key h' s.toks ⟨e, hx, rfl⟩ ⟨k', st.2.to fun o e => (sb.2 d hne).trans e⟩ fun b o hb e => (sb.2 b fun z => hb (by simp [z])).trans e
  done := fun s Q E st hQ => raw_end hh st.1 st.2 fun h' he => hQ h' s.toks fun b o hb e => he b o (fun z => hb (by simp [z])) e
  self := fun _ _ _ _ st hQ => wpAny_pyIter_keyiter st.1 hQ
theorem dct_len : typeLookup (.type "dict") "__len__" = pure (some (.builtin "dict.__len__")) := by rw [typeLookup_type, builtinLookup_eq_fast]; kernel_rfl
theorem keys_extend {R : Result -> Shared -> Prop} (hh : A.handled = none) (ns : (d == sysModules) = false) (m : RawD s.heap d es ep) (S : Addr) (nS : S ≠ d) (c0 : Nat) (hS : s.heap.get? S = some { cls := .type "list", data := .seq #[] c0 })
    (hR : ∀ h' tk acc c', (∀ b o, b ≠ S -> s.heap.get? b = some o -> h'.get? b = some o) -> h'.get? S = some { cls := .type "list", dict := none, data := .seq acc c', slots := #[] } -> ItemsOf (fun i v => ∃ e, es[i]? = some e /\ v = e.key) acc es.size -> R (.ok (.ret .none)) { s with heap := h', toks := tk })
    (hn : es.size <= sizeLine) : wpAny (model prog w) A.in1 (Builtin.List.listExtendWith (.ref S) (.ref d) .none) (fun fin s' => match fin with | .done f => R (.ok f) s' | .again c' => c'.quiet = true /\ codeAny (model prog w) A c' R s') (fun e s' => R (.error e) s') s := by
  have same : Builtin.List.listSameRef (.ref S) (.ref d) = false := by simp [Builtin.List.listSameRef, nS]
  have ty := m.typeIs
  have ld : d < s.heap.objs.size := let ⟨_, e, _⟩ := m; Heap.lt_size e
  have lS : S < s.heap.objs.size := Heap.lt_size hS
  unfold Builtin.List.listExtendWith
  refine wpAny_bind (wpAny_typeOf ty ?_)
  rw [if_neg (by rw [same]; decide)]
  refine wpAny_bind (raw_iter ns m (wpAny_bind (wpAny_holding ?_)))
  have m1 : RawD (s.heap.push { cls := .type "dict_keyiterator", data := .fields #[.ref d, .int 0 0, .int es.size 0, .int ep 0] }) d es ep := m.to fun o e => Heap.get?_push_of_some _ e
  unfold Builtin.List.listLengthHint
  refine wpAny_bind (wpAny_specialOf (RawD.typeIs m1) dct_len ?_)
  generalize hid : ("dict.__len__" : String) = id0
  wp_delta
  rw [show splitId id0 = some ("dict", "__len__") from by subst hid; decide +kernel]
  subst hid
  refine wpAny_bind (wpAny_isInstance (b := true) (RawD.typeIs m1) (by rw [isSubtype_type]; kernel_rfl) ?_)
  rw [if_neg (by decide)]
  show wpAny _ _ (if _ = true then (typeOf (Value.ref d) >>= _) else _) _ _ _
  rw [if_pos (by decide +kernel)]
  refine wpAny_bind (wpAny_typeOf (RawD.typeIs m1) (wpAny_pure ?_))
  show wpAny _ A.in1 (rule "list.extend.makes-room" >>= fun _ => Builtin.List.listTouch (.ref S) >>= fun _ => again (.builtin "list.extend.loop" ⟨[.ref S, .ref s.heap.objs.size, .none], []⟩)) _ _ _
  refine wpAny_bind (wpAny_rule (wpAny_bind ?_))
  show wpAny _ A.in1 (updateSeq S (·.push .none) >>= fun _ => updateSeq S (·.pop)) _ _ _
  have hS1 := Heap.get?_push_of_some { cls := .type "dict_keyiterator", data := .fields #[.ref d, .int 0 0, .int es.size 0, .int ep 0] } hS
  refine wpAny_bind (wpAny_updateSeq hS1 rfl ?_)
  have hS2 := Heap.get?_update_self (Obj.mapSeq (·.push Value.none)) hS1 rfl
  refine wpAny_updateSeq (hz := by seq_fits) hS2 rfl ?_
  have hS3 := Heap.get?_update_self (Obj.mapSeq (·.pop)) hS2 rfl
  have oth : ∀ b o, b ≠ S -> (s.heap.push { cls := .type "dict_keyiterator", data := .fields #[.ref d, .int 0 0, .int es.size 0, .int ep 0] }).get? b = some o -> (((s.heap.push { cls := .type "dict_keyiterator", data := .fields #[.ref d, .int 0 0, .int es.size 0, .int ep 0] }).update S (Obj.mapSeq (·.push Value.none))).update S (Obj.mapSeq (·.pop))).get? b = some o :=
    fun b o hb e => (Heap.get?_update_other _ _ (Ne.symm hb)).trans ((Heap.get?_update_other _ _ (Ne.symm hb)).trans e)
  have nI : S ≠ s.heap.objs.size := Nat.ne_of_lt lS
  have nd : d ≠ s.heap.objs.size := Nat.ne_of_lt ld
  have W := (walks_raw (prog := prog) (w := w) (A := A.in1) hh s.heap.objs.size d nd es ep).toS
  refine wpAny_pure ⟨plainId_quiet F.plain_extend_loop _, codeAny_extend_loopS W hn S (by simp; exact ⟨nI, nS⟩) .none es.size 0 _ _ _ rfl (Nat.zero_le _) ⟨⟨_, oth _ _ nI.symm (Heap.get?_push_size _ rfl), rfl, rfl⟩, m1.to fun o e => oth d o nS.symm e⟩ hS3 (ItemsOf.nil _) fun s' acc c' hm hS' ha => ?_⟩
  rw [Moved.eq_with hm]
  refine hR s'.heap s'.toks acc c' (fun b o hb e => hm.heap b o (fun z => ?_) (oth b o hb (Heap.get?_push_of_some _ e))) hS' ha
  rcases List.mem_cons.mp z with z | z
  · exact hb z
  · have := Heap.lt_size e
    rw [List.mem_singleton.mp z] at this
    exact Nat.lt_irrefl _ this
theorem keys_list {Q : Value -> Shared -> Prop} (hh : A.handled = none) (ns : (d == sysModules) = false) (m : RawD s.heap d es ep)
    (q : ∀ h' tk acc c', (∀ b o, s.heap.get? b = some o -> h'.get? b = some o) -> h'.get? s.heap.objs.size = some { cls := .type "list", dict := none, data := .seq acc c', slots := #[] } -> ItemsOf (fun i v => ∃ e, es[i]? = some e /\ v = e.key) acc es.size -> Q (.ref s.heap.objs.size) { s with heap := h', toks := tk })
    (hn : es.size <= sizeLine) : wpAny (model prog w) A (call (.type "list") [.ref d]) Q E s := by
  refine callType_codes (Q₁ := fun obj sx => obj = .ref s.heap.objs.size /\ sx = { s with heap := s.heap.push { cls := .type "list", data := .seq #[] } }) F.called_list (F.typeCall_list_1 _) F.entry_list_init (code_list_new _ ⟨rfl, rfl⟩) fun obj sx hx => ?_
  obtain ⟨rfl, rfl⟩ := hx
  have hS : (s.heap.push { cls := .type "list", data := .seq #[] }).get? s.heap.objs.size = some { cls := .type "list", data := .seq #[] } := Heap.get?_push_size _ rfl
  have ld : d < s.heap.objs.size := let ⟨_, e, _⟩ := m; Heap.lt_size e
  refine ⟨⟨_, hS, rfl⟩, F.args_list_init_2 _ _, ?_⟩
  show wpAny _ _ (do let old <- Builtin.List.listItems (.ref s.heap.objs.size); Builtin.List.listUpdate (.ref s.heap.objs.size) (fun _ => #[]); letGo old.toList.reverse; Builtin.List.listExtendWith (.ref s.heap.objs.size) (.ref d) .none) _ _ _
  refine wpAny_bind ?_
  unfold Builtin.List.listItems
  refine wpAny_bind (wpAny_seqItems hS rfl (wpAny_pure (show wpAny _ _ (updateSeq s.heap.objs.size (fun _ => #[]) >>= fun _ => letGo (#[] : Array Value).toList.reverse >>= fun _ => Builtin.List.listExtendWith (.ref s.heap.objs.size) (.ref d) .none) _ _ _ from wpAny_bind (wpAny_updateSeq hS rfl (wpAny_bind (wpAny_letGo ?_))))))
  have hS2 := Heap.get?_update_self (Obj.mapSeq (fun _ => (#[] : Array Value))) hS rfl
  have ot : ∀ b o, b ≠ s.heap.objs.size -> s.heap.get? b = some o -> ((s.heap.push { cls := .type "list", data := .seq #[] }).update s.heap.objs.size (Obj.mapSeq (fun _ => (#[] : Array Value)))).get? b = some o := fun b o hb e => (Heap.get?_update_other _ _ (Ne.symm hb)).trans (Heap.get?_push_of_some _ e)
  have nd : d ≠ s.heap.objs.size := Nat.ne_of_lt ld
  refine keys_extend (A := A.in1) hh ns (m.to fun o e => ot d o nd e) _ nd.symm _ hS2 (fun h' tk acc c' hk hS' ha => ⟨rfl, q h' tk acc c' (fun b o e => ?_) hS' ha⟩) hn
  have nb : b ≠ s.heap.objs.size := Nat.ne_of_lt (Heap.lt_size e)
  exact hk b o nb (ot b o nb e)
end
section
variable {X : Cx} {e : Expr} {te : TE} {p1 q1 : Pos}
end
end L2
namespace L2
open PySem PySem.Spec PyProof.Rows
section
variable {X : Cx}
end
end L2
namespace L2
open PySem PySem.Spec PySem.Calls PyProof.Rows Builtin Builtin.Tuple
section
variable {X : Cx}
end
end L2
namespace L2
open PySem PySem.Spec PyProof.Rows
end L2
namespace L2
open PySem PySem.Spec PyProof.Rows
structure KH (P : Program) (w : World) (K : Type) [DecidableEq K] where
  kind : HeapKind P w K
  key : Hp -> K -> Addr -> Prop
  same : ∀ {H H' : Hp} {k : K} {a : Addr}, (∀ b ys, H b = some (.tup ys) -> H' b = some (.tup ys)) -> key H k a -> key H' k a
  is : ∀ {H : Hp} {h : Heap} {k : K} {a : Addr}, HOk P w H h -> key H k a -> kind.is h k a
  room : ∀ {A : Around}, A.units + 80 < cLine -> kind.room A.in1
def spotH (P : Program) (w : World) : KH P w SpK := ⟨spotKind P w, keyS, fun e h => h.same e, key_spot, fun {A} hu => show A.in1.units + 64 < cLine from by show A.units + _ + 64 < cLine; omega⟩
def tupH (P : Program) (w : World) : KH P w (List Key) := ⟨tupleKind (mixKind P w), fun H k a => H a = some (.tup (k.map kV)), fun e h => e _ _ h, key_of, fun hu => tupleKind_room_in1 (by omega)⟩
section
variable {K : Type} [DecidableEq K]
variable {P : Program} {w : World} (κ : KH P w K)
variable {κ}
end
section
variable {X : Cx} {K : Type} [DecidableEq K] {κ : KH X.prog X.w K} {pins : List (Addr × Obj)} {σ : St} {H : Hp} {s : Shared} {a b : Addr} {v : V} {r : Value} {xs : List (K × Addr × V)} {k : K} {A : Around} {E : Value -> Shared -> Prop}
end
end L2
namespace L2
open PySem PySem.Spec PyProof.Rows
section
variable {K : Type} [DecidableEq K]
variable {X : Cx} {κ : KH X.prog X.w K} {tg : Expr}
end
end L2
namespace L2
open PySem PySem.Spec PyProof.Rows
section
variable {prog : Program} {w : World} {A : Around} {E : Value -> Shared -> Prop} {s : Shared}
theorem mayTell {key : Value} {stored : List Value} {Q : Bool -> Shared -> Prop} (qk : ∀ Q : Bool -> Shared -> Prop, Q true s -> wpAny (model prog w) A (eqIsQuiet 8 key) Q E s) (qs : ∀ v ∈ stored, ∀ Q : Bool -> Shared -> Prop, Q true s -> wpAny (model prog w) A (eqIsQuiet 8 v) Q E s) (h : Q false s) : wpAny (model prog w) A (tableMayTell key stored) Q E s := by
  unfold tableMayTell
  split
  · exact wpAny_pure h
  refine wpAny_bind (qk _ ?_)
  rw [if_neg (by decide)]
  refine wpAny_bind (wpAny_forIn_list _ (fun rest b s' => s' = s /\ b = (none, ()) /\ ∀ v ∈ rest, v ∈ stored) _ ?_ ?_ _ _ ⟨rfl, rfl, fun v hv => hv⟩)
  · rintro x rest b s' ⟨rfl, rfl, hr⟩
    refine wpAny_bind (qs x (hr x List.mem_cons_self) _ ?_)
    rw [if_neg (by decide)]
    exact wpAny_pure ⟨rfl, rfl, fun v hv => hr v (List.mem_cons_of_mem _ hv)⟩
  · rintro b s' ⟨rfl, rfl, _⟩
    exact wpAny_pure h
theorem places_nd (n : Nat) (f : Nat -> Option Int) (h : Int) : (placesWithHash n f h).Nodup := by
  unfold placesWithHash
  exact List.Pairwise.filter _ List.nodup_range
theorem walk_plain {d : Addr} {o : Obj} {es : Array DictEntry} {ep : Nat} {key : Value} {h : Int} {pl : List Nat} {Q : Option Nat -> Shared -> Prop} (t : Nat -> Bool) (ho : s.heap.get? d = some o) (hd : o.data = .dict es ep)
    (heq : ∀ (i : Nat) e, es[i]? = some e -> e.hash = h -> ∀ Q : Bool -> Shared -> Prop, Q (t i) s -> wpAny (model prog w) A (eqBool e.key key) Q E s) (pm : ∀ i ∈ pl, ∃ e, es[i]? = some e /\ e.hash = h)
    (hnone : (∀ i ∈ pl, t i = false) -> Q none s) (hsome : ∀ i ∈ pl, t i = true -> Q (some i) s) : wpAny (model prog w) A (dictWalkPlain d key h es pl) Q E s := by
  unfold dictWalkPlain
  refine wpAny_bind (wpAny_forIn_list _ (fun rest b s' => s' = s /\ ((b = (none, ()) /\ (∀ i ∈ rest, i ∈ pl) /\ ∀ i ∈ pl, i ∈ rest \/ t i = false))) _ ?_ ?_ _ _ ⟨rfl, rfl, fun i hi => hi, fun i hi => .inl hi⟩)
  · rintro i rest b s' ⟨rfl, rfl, hr, hf⟩
    obtain ⟨e, he, hh⟩ := pm i (hr i List.mem_cons_self)
    rw [he]
    dsimp only
    rw [if_pos (by rw [hh]; exact beq_self_eq_true _)]
    refine wpAny_bind (wpAny_dictEpoch ho hd (wpAny_bind (heq i e he hh _ (wpAny_bind (wpAny_dictEpoch ho hd ?_)))))
    rw [if_neg (by simp)]
    cases ht : t i with
    | true =>
      rw [if_pos rfl]
      refine wpAny_bind (wpAny_rule (wpAny_pure ?_))
      exact wpAny_pure (hsome i (hr i List.mem_cons_self) ht)
    | false =>
      rw [if_neg (by decide)]
      refine wpAny_bind (wpAny_rule (wpAny_pure ⟨rfl, rfl, fun j hj => hr j (List.mem_cons_of_mem _ hj), fun j hj => ?_⟩))
      rcases hf j hj with h | h
      · rcases List.mem_cons.mp h with rfl | h
        · exact .inr ht
        · exact .inl h
      · exact .inr h
  · rintro b s' ⟨rfl, rfl, hr, hf⟩
    exact wpAny_pure (hnone fun i hi => (hf i hi).resolve_left (fun z => nomatch z))
theorem found_val {d : Addr} {o : Obj} {es : Array DictEntry} {ep : Nat} {z : Str} {tk : Tok} {Q : Option Nat -> Shared -> Prop} (t : Nat -> Bool) (ho : s.heap.get? d = some o) (hd : o.data = .dict es ep)
    (heq : ∀ (i : Nat) e, es[i]? = some e -> t i = true -> ∀ Q : Bool -> Shared -> Prop, Q (t i) s -> wpAny (model prog w) A (eqBool e.key (.str z tk)) Q E s) (st : ∀ (i : Nat) e, es[i]? = some e -> e.key.isStr z = t i)
    (hnone : (∀ i, i < es.size -> t i = false) -> Q none s) (hsome : ∀ i, i < es.size -> t i = true -> Q (some i) s) : wpAny (model prog w) A (foundByValue d (.str z tk) es z) Q E s := by
  unfold foundByValue
  cases hf : es.findIdx? (fun x => x.key.isStr z) with
  | none =>
    refine wpAny_pure (hnone fun i hi => ?_)
    have := Array.findIdx?_eq_none_iff.mp hf es[i] (Array.getElem_mem hi)
    rw [<- st i es[i] (Array.getElem?_eq_getElem hi)]
    exact this
  | some i =>
    obtain ⟨hi, h1, _⟩ := Array.findIdx?_eq_some_iff_getElem.mp hf
    have he : es[i]? = some es[i] := Array.getElem?_eq_getElem hi
    have ht : t i = true := by rw [<- st i es[i] he]; exact h1
    dsimp only
    rw [he]
    dsimp only
    refine wpAny_bind (wpAny_dictEpoch ho hd (wpAny_bind (heq i _ he ht _ (wpAny_bind (wpAny_dictEpoch ho hd ?_)))))
    rw [if_neg (by simp), ht, if_pos rfl]
    exact wpAny_bind (wpAny_rule (wpAny_pure (hsome i hi ht)))
theorem find_any {d : Addr} {o : Obj} {es : Array DictEntry} {ep : Nat} {key : Value} {h : Int} {Q : Option Nat -> Shared -> Prop} (t : Nat -> Bool) (ho : s.heap.get? d = some o) (hd : o.data = .dict es ep)
    (heq : ∀ (i : Nat) e, es[i]? = some e -> e.hash = h -> ∀ Q : Bool -> Shared -> Prop, Q (t i) s -> wpAny (model prog w) A (eqBool e.key key) Q E s)
    (one : ∀ i j : Nat, i < es.size -> j < es.size -> t i = true -> t j = true -> i = j) (eh : ∀ (i : Nat) e, es[i]? = some e -> t i = true -> e.hash = h)
    (qk : ∀ Q : Bool -> Shared -> Prop, Q true s -> wpAny (model prog w) A (eqIsQuiet 8 key) Q E s) (qe : ∀ (i : Nat) e, es[i]? = some e -> ∀ Q : Bool -> Shared -> Prop, Q true s -> wpAny (model prog w) A (eqIsQuiet 8 e.key) Q E s)
    (hk3 : (∃ n tk, key = .int n tk) \/ (∃ z tk, key = .str z tk) \/ ∃ a, key = .ref a) (so : ∀ (i : Nat) e, es[i]? = some e -> e.key = key -> e.hash = h) (st : ∀ z tk, key = .str z tk -> ∀ (i : Nat) e, es[i]? = some e -> e.key.isStr z = t i)
    (hnone : (∀ i, i < es.size -> t i = false) -> Q none s) (hsome : ∀ i, i < es.size -> t i = true -> Q (some i) s) : wpAny (model prog w) A (dictFind d key h) Q E s := by
  obtain ⟨pl, hpl⟩ : ∃ pl, placesWithHash es.size (fun i => es[i]?.map (·.hash)) h = pl := ⟨_, rfl⟩
  have pnd : pl.Nodup := by rw [<- hpl]; exact places_nd _ _ _
  have pm : ∀ i, i ∈ pl ↔ i < es.size /\ es[i]?.map (·.hash) = some h := fun i => by
    rw [<- hpl]
    unfold placesWithHash
    simp
  have pin : ∀ i, i < es.size -> t i = true -> i ∈ pl := fun i hi ht => by
    rw [pm]
    refine ⟨hi, ?_⟩
    rw [Array.getElem?_eq_getElem hi]
    exact congrArg some (eh i _ (Array.getElem?_eq_getElem hi) ht)
  have pe : ∀ i ∈ pl, ∃ e, es[i]? = some e /\ e.hash = h := fun i hi => by
    obtain ⟨h1, h2⟩ := (pm i).mp hi
    obtain ⟨e, he, hh⟩ := Option.map_eq_some_iff.mp h2
    exact ⟨e, he, hh⟩
  have none' : (∀ i ∈ pl, t i = false) -> Q none s := fun hf => hnone fun i hi => by
    cases ht : t i with
    | false => rfl
    | true => rw [hf i (pin i hi ht)] at ht; cases ht
  have some' : ∀ i ∈ pl, t i = true -> Q (some i) s := fun i hi ht => hsome i ((pm i).mp hi).1 ht
  have sk : ∀ v ∈ pl.filterMap (fun i => es[i]?.map (·.key)), ∀ Q : Bool -> Shared -> Prop, Q true s -> wpAny (model prog w) A (eqIsQuiet 8 v) Q E s := fun v hv => by
    obtain ⟨i, _, hi⟩ := List.mem_filterMap.mp hv
    obtain ⟨e, he, rfl⟩ := Option.map_eq_some_iff.mp hi
    exact qe i e he
  unfold dictFind
  refine wpAny_holding ?_
  refine wpAny_bind (wpAny_dictEntries ho hd ?_)
  dsimp only
  by_cases hp : ∃ z tk, key = .str z tk /\ (es.all fun e => isExactStrKey e.key) = true
  · obtain ⟨z, tk, rfl, hall⟩ := hp
    dsimp only
    rw [if_pos hall]
    exact found_val t ho hd (fun i e he ht => heq i e he (eh i e he ht)) (fun i e he => st z tk rfl i e he) hnone hsome
  rw [hpl]
  have hany : (es.any fun e => e.key == key && e.hash != h) = false := by
    rw [Bool.eq_false_iff]
    intro z
    obtain ⟨i, hi, z⟩ := Array.any_eq_true.mp z
    simp only [Bool.and_eq_true, beq_iff_eq, bne_iff_ne] at z
    exact z.2 (so i es[i] (Array.getElem?_eq_getElem hi) z.1)
  by_cases hb : ((key :: pl.filterMap (fun i => es[i]?.map (·.key))).all carriedByValue) = true
  · cases key <;> dsimp only <;> (try rw [if_neg (fun z => hp ⟨_, _, rfl, z⟩)]) <;> (rw [if_pos hb]; exact walk_plain t ho hd heq pe none' some')
  have turn : ∀ (i : Nat) (rest dn : List Nat), pl = dn ++ i :: rest -> t i = true -> (∃ j ∈ dn, t j = true) -> False := fun i rest dn e ht ⟨j, hj, tj⟩ => by
    have hi : i ∈ pl := by rw [e]; simp
    have hj' : j ∈ pl := by rw [e]; exact List.mem_append_left _ hj
    have := one i j ((pm i).mp hi).1 ((pm j).mp hj').1 ht tj
    subst this
    rw [e] at pnd
    exact (List.nodup_append.mp pnd).2.2 i hj i List.mem_cons_self rfl
  rcases hk3 with ⟨n, tk, rfl⟩ | ⟨z, tk, rfl⟩ | ⟨a, rfl⟩
  all_goals dsimp only
  all_goals try rw [if_neg (fun y => hp ⟨_, _, rfl, y⟩)]
  all_goals rw [if_neg hb]
  all_goals try rw [hany, if_neg (by decide)]
  all_goals split
  all_goals first | refine wpAny_bind (wpAny_pure ?_) | refine wpAny_bind (mayTell qk sk ?_)
  all_goals rw [if_neg (by simp)]
  all_goals refine wpAny_bind (wpAny_forIn_list _ (fun rest b s' => s' = s /\ ∃ dn hit, b = (none, hit) /\ pl = dn ++ rest /\ ((hit = none /\ ∀ i ∈ dn, t i = false) \/ ∃ j ∈ dn, hit = some j /\ t j = true)) _ ?_ ?_ _ _ ⟨rfl, [], none, rfl, rfl, .inl ⟨rfl, fun i hi => nomatch hi⟩⟩)
  all_goals first
    | (
       rintro b s' ⟨rfl, dn, hit, rfl, e, hh⟩
       rw [List.append_nil] at e
       rcases hh with ⟨rfl, hf⟩ | ⟨j, hj, rfl, tj⟩
       · exact wpAny_pure (none' fun i hi => hf i (by rw [<- e]; exact hi))
       · exact wpAny_pure (some' j (by rw [e]; exact hj) tj))
    | (
       rintro i rest b s' ⟨rfl, dn, hit, rfl, e, hh⟩
       have hi : i ∈ pl := by rw [e]; simp
       obtain ⟨en, he, hs⟩ := pe i hi
       rw [he]
       dsimp only
       rw [if_pos (by rw [hs]; exact beq_self_eq_true _)]
       refine wpAny_bind (wpAny_dictEpoch ho hd (wpAny_bind (heq i en he hs _ (wpAny_bind (wpAny_dictEpoch ho hd ?_)))))
       rw [if_neg (by simp)]
       have e' : pl = (dn ++ [i]) ++ rest := by rw [e]; simp
       cases ht : t i with
       | true =>
         have hn : hit = none := by
           rcases hh with ⟨h1, _⟩ | ⟨j, hj, _, tj⟩
           · exact h1
           · exact (turn i rest dn e ht ⟨j, hj, tj⟩).elim
         subst hn
         rw [if_pos rfl, if_neg (by simp)]
         refine wpAny_bind (wpAny_rule ?_)
         split
         · exact wpAny_pure (wpAny_pure (some' i hi ht))
         · exact wpAny_pure ⟨rfl, dn ++ [i], some i, rfl, e', .inr ⟨i, by simp, rfl, ht⟩⟩
       | false =>
         rw [if_neg (by decide)]
         refine wpAny_bind (wpAny_rule ?_)
         rw [if_neg (by simp)]
         refine wpAny_pure ⟨rfl, dn ++ [i], hit, rfl, e', ?_⟩
         rcases hh with ⟨h1, h2⟩ | ⟨j, hj, h1, tj⟩
         · refine .inl ⟨h1, fun j hj => ?_⟩
           rcases List.mem_append.mp hj with h | h
           · exact h2 j h
           · rw [List.mem_singleton.mp h]; exact ht
         · exact .inr ⟨j, List.mem_append_left _ hj, h1, tj⟩)
end
end L2
namespace L2
open PySem PySem.Spec PyProof.Rows
abbrev NK := Key ⊕ (List Key ⊕ SpK)
def keyN (H : Hp) : NK -> V -> Prop
  | .inl k, v => v = kV k
  | .inr (.inl ks), v => ∃ a, v = .ref a /\ H a = some (.tup (ks.map kV))
  | .inr (.inr sp), v => ∃ a, v = .ref a /\ keyS H sp a
def hashN (P : Program) (w : World) : NK -> Int
  | .inl k => (mixKind P w).hash k
  | .inr (.inl ks) => (tupleKind (mixKind P w)).hash ks
  | .inr (.inr sp) => (spotKind P w).hash sp
def daK (k : Key) : Da := .fl (kV k)
def daN : NK -> Da
  | .inl k => daK k
  | .inr (.inl ks) => .tup (ks.map daK)
  | .inr (.inr sp) => .tup [.tup (sp.1.map daK), daK sp.2]
theorem keyN.same {H H' : Hp} (e : ∀ b ys, H b = some (.tup ys) -> H' b = some (.tup ys)) : ∀ {k : NK} {v : V}, keyN H k v -> keyN H' k v
  | .inl _, _, h => h
  | .inr (.inl _), _, ⟨a, h1, h2⟩ => ⟨a, h1, e _ _ h2⟩
  | .inr (.inr _), _, ⟨a, h1, h2⟩ => ⟨a, h1, h2.same e⟩
theorem isd_K {K : PySem.W.Frag} {H : Hp} (k : Key) : Isd K H (daK k) (kV k) := by
  unfold daK Isd
  cases k <;> exact ⟨rfl, rfl⟩
theorem isds_K {K : PySem.W.Frag} {H : Hp} : ∀ ks : List Key, Isds K H (ks.map daK) (ks.map kV)
  | [] => by show Isds K H [] []; unfold Isds; rfl
  | k :: ks => by
    show Isds K H (daK k :: ks.map daK) (kV k :: ks.map kV)
    unfold Isds
    exact ⟨_, _, rfl, isd_K k, isds_K ks⟩
theorem dep_K : ∀ ks : List Key, depDs (ks.map daK) = 0
  | [] => by show depDs [] = 0; unfold depDs; rfl
  | k :: ks => by
    show depDs (daK k :: ks.map daK) = 0
    unfold depDs
    rw [dep_K ks]
    unfold daK depD
    rfl
theorem isd_N {K : PySem.W.Frag} {H : Hp} : ∀ {k : NK} {v : V}, keyN H k v -> Isd K H (daN k) v
  | .inl k, v, h => by
    have h : v = kV k := h
    subst h
    exact isd_K k
  | .inr (.inl ks), v, ⟨a, h1, h2⟩ => by
    subst h1
    unfold daN Isd
    exact ⟨a, _, rfl, SqT.of h2, isds_K ks⟩
  | .inr (.inr sp), v, ⟨a, h1, b, h2, h3⟩ => by
    subst h1
    unfold daN Isd
    refine ⟨a, _, rfl, SqT.of h2, ?_⟩
    unfold Isds
    refine ⟨_, _, rfl, by unfold Isd; exact ⟨b, _, rfl, SqT.of h3, isds_K sp.1⟩, ?_⟩
    unfold Isds
    refine ⟨_, _, rfl, isd_K sp.2, ?_⟩
    unfold Isds
    rfl
theorem dep_N : ∀ k : NK, depD (daN k) <= 2
  | .inl k => by unfold daN daK depD; decide
  | .inr (.inl ks) => by unfold daN depD; rw [dep_K]; decide
  | .inr (.inr sp) => by
    have e : depD (daK sp.2) = 0 := by unfold daK depD; rfl
    show depD (.tup [.tup (sp.1.map daK), daK sp.2]) <= 2
    unfold depD depDs depDs depDs
    rw [e]
    unfold depD
    rw [dep_K]
    decide
theorem eqV_K (a b : Key) : eqV (kV a) (kV b) = decide (a = b) := by
  cases a <;> cases b <;> simp [kV, eqV] <;> first | rfl | (exact decide_eq_decide.mpr Iff.rfl) | skip
theorem eqD_K (a b : Key) : eqD (daK a) (daK b) = decide (a = b) := by
  unfold daK eqD
  exact eqV_K a b
theorem eqDs_K : ∀ a b : List Key, eqDs (a.map daK) (b.map daK) = decide (a = b)
  | [], [] => by show eqDs [] [] = _; unfold eqDs; simp
  | [], b :: bs => by show eqDs [] (daK b :: _) = _; unfold eqDs; simp
  | a :: as, [] => by show eqDs (daK a :: _) [] = _; unfold eqDs; simp
  | a :: as, b :: bs => by
    show eqDs (daK a :: as.map daK) (daK b :: bs.map daK) = _
    unfold eqDs
    rw [eqD_K, eqDs_K as bs]
    by_cases h : a = b <;> by_cases h2 : as = bs <;> simp [h, h2]
theorem fl_tup (k : Key) (ds : List Da) : eqD (daK k) (.tup ds) = false /\ eqD (.tup ds) (daK k) = false := by
  unfold daK
  exact ⟨by unfold eqD; rfl, by unfold eqD; rfl⟩
theorem flat_pair : ∀ (ks : List Key) (ds : List Da) (d : Da), eqDs (ks.map daK) [.tup ds, d] = false /\ eqDs [.tup ds, d] (ks.map daK) = false
  | [], ds, d => ⟨by show eqDs [] _ = _; unfold eqDs; rfl, by show eqDs _ [] = _; unfold eqDs; rfl⟩
  | k :: ks, ds, d => by
    refine ⟨?_, ?_⟩
    · show eqDs (daK k :: ks.map daK) _ = _
      unfold eqDs
      rw [(fl_tup k ds).1]
      rfl
    · show eqDs _ (daK k :: ks.map daK) = _
      unfold eqDs
      rw [(fl_tup k ds).2]
      rfl
theorem eqD_N : ∀ a b : NK, eqD (daN a) (daN b) = decide (a = b)
  | .inl a, .inl b => by
    show eqD (daK a) (daK b) = _
    rw [eqD_K]
    by_cases h : a = b <;> simp [h]
  | .inl a, .inr (.inl b) => by
    show eqD (daK a) (.tup _) = _
    rw [(fl_tup a _).1]
    simp
  | .inl a, .inr (.inr b) => by
    show eqD (daK a) (.tup _) = _
    rw [(fl_tup a _).1]
    simp
  | .inr (.inl a), .inl b => by
    show eqD (.tup _) (daK b) = _
    rw [(fl_tup b _).2]
    simp
  | .inr (.inr a), .inl b => by
    show eqD (.tup _) (daK b) = _
    rw [(fl_tup b _).2]
    simp
  | .inr (.inl a), .inr (.inl b) => by
    show eqD (.tup (a.map daK)) (.tup (b.map daK)) = _
    unfold eqD
    rw [eqDs_K]
    by_cases h : a = b <;> simp [h]
  | .inr (.inl a), .inr (.inr b) => by
    show eqD (.tup (a.map daK)) (.tup [.tup (b.1.map daK), daK b.2]) = _
    unfold eqD
    rw [(flat_pair a _ _).1]
    simp
  | .inr (.inr a), .inr (.inl b) => by
    show eqD (.tup [.tup (a.1.map daK), daK a.2]) (.tup (b.map daK)) = _
    unfold eqD
    rw [(flat_pair b _ _).2]
    simp
  | .inr (.inr a), .inr (.inr b) => by
    show eqD (.tup [.tup (a.1.map daK), daK a.2]) (.tup [.tup (b.1.map daK), daK b.2]) = _
    have e1 : eqD (.tup (a.1.map daK)) (.tup (b.1.map daK)) = decide (a.1 = b.1) := by unfold eqD; exact eqDs_K _ _
    have e2 : eqDs [.tup (a.1.map daK), daK a.2] [.tup (b.1.map daK), daK b.2] = (decide (a.1 = b.1) && (decide (a.2 = b.2) && true)) := by
      unfold eqDs eqDs eqDs
      rw [e1, eqD_K]
    have e3 : eqD (.tup [.tup (a.1.map daK), daK a.2]) (.tup [.tup (b.1.map daK), daK b.2]) = eqDs [.tup (a.1.map daK), daK a.2] [.tup (b.1.map daK), daK b.2] := by
      conv => lhs; unfold eqD
    rw [e3, e2]
    obtain ⟨a1, a2⟩ := a
    obtain ⟨b1, b2⟩ := b
    by_cases h1 : a1 = b1 <;> by_cases h2 : a2 = b2 <;> simp [h1, h2]
section
variable {X : Cx} {pins : List (Addr × Obj)} {σ : St} {H : Hp} {s : Shared} {A : Around} {E : Value -> Shared -> Prop} {k k' : NK} {v v' : V} {u u' : Value}
theorem mix_is {k : Key} {u : Value} (P : Program) (w : World) (r : RelV (kV k) u) : (mixKind P w).is k u = true := by
  rw [mixKind_is]
  cases k with
  | inl i => obtain ⟨t, rfl⟩ := r; show (i == i) = true; simp
  | inr z => obtain ⟨t, rfl⟩ := r; show (z == z) = true; simp
theorem hash_N {Q : Int -> Shared -> Prop} (hu : A.units + 80 < cLine) (I : Inv X pins σ H s) (hk : keyN H k v) (r : RelV v u) (h : ∀ tk, Q (hashN X.prog X.w k) { s with toks := tk }) : wpAny (model X.prog X.w) A.in1 (pyHash u) Q E s := by
  match k, hk with
  | .inl k, hk =>
    have hk : v = kV k := hk
    subst hk
    exact (mixKind X.prog X.w).pyHash (mix_is X.prog X.w r) (h _)
  | .inr (.inl ks), ⟨a, h1, h2⟩ =>
    subst h1
    cases r
    exact (tupH X.prog X.w).kind.pyHash ((tupH X.prog X.w).room hu) (key_of I.hok h2) (h _)
  | .inr (.inr sp), ⟨a, h1, h2⟩ =>
    subst h1
    cases r
    exact (spotH X.prog X.w).kind.pyHash ((spotH X.prog X.w).room hu) (key_spot I.hok h2) (h _)
theorem quiet_N {Q : Bool -> Shared -> Prop} (I : Inv X pins σ H s) (hk : keyN H k v) (r : RelV v u) (h : Q true s) : wpAny (model X.prog X.w) A (eqIsQuiet 8 u) Q E s := by
  match k, hk with
  | .inl k, hk =>
    have hk : v = kV k := hk
    subst hk
    cases k with
    | inl i => obtain ⟨t, rfl⟩ := r; exact wpAny_pure h
    | inr z => obtain ⟨t, rfl⟩ := r; exact wpAny_pure h
  | .inr (.inl ks), ⟨a, h1, h2⟩ =>
    subst h1
    cases r
    exact (tupH X.prog X.w).kind.quiet (key_of I.hok h2) h
  | .inr (.inr sp), ⟨a, h1, h2⟩ =>
    subst h1
    cases r
    exact (spotH X.prog X.w).kind.quiet (key_spot I.hok h2) h
theorem eq_N {Q : Bool -> Shared -> Prop} (hu : A.units + 80 < cLine) (I : Inv X pins σ H s) (hk : keyN H k v) (r : RelV v u) (hk' : keyN H k' v') (r' : RelV v' u') (h : Q (decide (k = k')) s) : wpAny (model X.prog X.w) A.in1 (eqBool u u') Q E s := by
  refine eqAt_D I 2 (daN k) (daN k') (dep_N k) (isd_N hk) (isd_N hk') r r' (show A.in1.units + 2 < cLine from ?_) X.prog X.w E Q ?_
  · show A.units + _ + 2 < cLine
    omega
  · rw [eqD_N]
    exact h
end
end L2
namespace L2
open PySem PySem.Spec PyProof.Rows
section
variable {K β γ : Type} [DecidableEq K]
def valM (xs : List (K × β × γ)) (k : K) : Option γ := (xs.find? fun x => decide (x.1 = k)).map (·.2.2)
def putM (xs : List (K × β × γ)) (k : K) (a : β) (v : γ) : List (K × β × γ) := if (valM xs k).isSome then xs.map (fun x => if x.1 = k then (x.1, x.2.1, v) else x) else xs ++ [(k, a, v)]
theorem putM_len (xs : List (K × β × γ)) (k : K) (a : β) (v : γ) : (putM xs k a v).length <= xs.length + 1 := by
  unfold putM
  split
  · rw [List.length_map]; omega
  · rw [List.length_append]; exact Nat.le_refl _
theorem valM_cons (p : K × β × γ) (xs : List (K × β × γ)) (k : K) : valM (p :: xs) k = if p.1 = k then some p.2.2 else valM xs k := by
  unfold valM
  rw [List.find?_cons]
  by_cases e : p.1 = k
  · rw [decide_eq_true e, if_pos e]; rfl
  · rw [decide_eq_false e, if_neg e]
theorem valM_isSome (xs : List (K × β × γ)) (k : K) : (valM xs k).isSome = true ↔ k ∈ xs.map (·.1) := by
  induction xs with
  | nil => simp [valM]
  | cons p xs ih =>
    rw [valM_cons, List.map_cons, List.mem_cons]
    by_cases e : p.1 = k
    · rw [if_pos e]; simp [e]
    · rw [if_neg e, ih]
      exact ⟨.inr, fun z => z.resolve_left fun y => e y.symm⟩
theorem putM_keys (xs : List (K × β × γ)) (k : K) (a : β) (v : γ) : (putM xs k a v).map (·.1) = if k ∈ xs.map (·.1) then xs.map (·.1) else xs.map (·.1) ++ [k] := by
  unfold putM
  by_cases e : (valM xs k).isSome = true
  · rw [if_pos e, if_pos ((valM_isSome xs k).mp e), List.map_map]
    refine List.map_congr_left fun x _ => ?_
    show (if x.1 = k then (x.1, x.2.1, v) else x).1 = x.1
    split <;> rfl
  · rw [if_neg e, if_neg (fun z => e ((valM_isSome xs k).mpr z)), List.map_append]
    rfl
theorem valM_at {xs : List (K × β × γ)} (nd : (xs.map (·.1)).Nodup) {j : Nat} {x : K × β × γ} (h : xs[j]? = some x) : valM xs x.1 = some x.2.2 := by
  induction xs generalizing j with
  | nil => simp at h
  | cons y xs ih =>
    rw [List.map_cons] at nd
    obtain ⟨h1, h2⟩ := List.nodup_cons.mp nd
    rw [valM_cons]
    cases j with
    | zero => cases h; rw [if_pos rfl]
    | succ j =>
      have h : xs[j]? = some x := h
      rw [if_neg (fun z => h1 (by rw [z]; exact List.mem_map.mpr ⟨x, List.mem_of_getElem? h, rfl⟩))]
      exact ih h2 h
theorem valM_none {xs : List (K × β × γ)} {k : K} (h : k ∉ xs.map (·.1)) : valM xs k = none := by
  cases e : valM xs k with
  | none => rfl
  | some v => exact absurd ((valM_isSome xs k).mp (by rw [e]; rfl)) h
end
abbrev VM {K : Type} : List (K × V × V) -> List (K × Value × Value) -> Prop := Paired fun p q => p.1 = q.1 /\ RelV p.2.1 q.2.1 /\ RelV p.2.2 q.2.2
section
variable {K : Type} [DecidableEq K] {xs : List (K × V × V)} {us : List (K × Value × Value)}
theorem VM.val (r : VM xs us) (k : K) : RelO (valM xs k) (valM us k) := by
  induction r with
  | nil => exact True.intro
  | @cons p q ps qs h t ih =>
    obtain ⟨h1, _, h3⟩ := h
    rw [valM_cons, valM_cons, <- h1]
    by_cases e : p.1 = k
    · rw [if_pos e, if_pos e]; exact h3
    · rw [if_neg e, if_neg e]; exact ih
theorem VM.put (r : VM xs us) (k : K) {a v : V} {b u : Value} (ra : RelV a b) (rv : RelV v u) : VM (putM xs k a v) (putM us k b u) := by
  have e := (r.val k).isSome_eq
  unfold putM
  rw [e]
  split
  · clear e
    rename_i hh
    clear hh
    induction r with
    | nil => exact .nil
    | @cons p q ps qs h t ih =>
      obtain ⟨h1, h2, h3⟩ := h
      refine .cons ?_ ih
      dsimp only
      rw [<- h1]
      by_cases z : p.1 = k
      · rw [if_pos z, if_pos z]; exact ⟨rfl, h2, rv⟩
      · rw [if_neg z, if_neg z]; exact ⟨h1, h2, h3⟩
  · exact Paired.snoc r ⟨rfl, ra, rv⟩
theorem VM.keys (r : VM xs us) : xs.map (·.1) = us.map (·.1) := by
  induction r with
  | nil => rfl
  | cons h t ih => rw [List.map_cons, List.map_cons, ih, h.1]
theorem VM.at {j : Nat} {q : K × Value × Value} (r : VM xs us) (h : us[j]? = some q) : ∃ p, xs[j]? = some p /\ p.1 = q.1 /\ RelV p.2.1 q.2.1 /\ RelV p.2.2 q.2.2 := by
  induction r generalizing j with
  | nil => simp at h
  | @cons p' q' ps qs h' t ih =>
    cases j with
    | zero => cases h; exact ⟨p', rfl, h'⟩
    | succ j => exact ih h
end
def entryN (P : Program) (w : World) (x : NK × Value × Value) : DictEntry := ⟨hashN P w x.1, x.2.1, x.2.2⟩
def ObN (P : Program) (w : World) (a : Addr) (xs : List (NK × V × V)) (o : Obj) : Prop := xs.length <= sizeLine /\ (a == sysModules) = false /\ ∃ us es ep, VM xs us /\ o.ExactDict /\ o.data = .dict es ep /\ es.toList = us.map (entryN P w) /\ (us.map (·.1)).Nodup
def DN (P : Program) (w : World) (H : Hp) (a : Addr) (xs : List (NK × V × V)) : Prop := (∃ o, H a = some (pinO a o) /\ ObN P w a xs o) /\ ∀ x ∈ xs, keyN H x.1 x.2.1
section
variable {P : Program} {w : World} {H H' : Hp} {a : Addr} {xs : List (NK × V × V)}
theorem DN.same (s : Same H H') (h : DN P w H a xs) : DN P w H' a xs := let ⟨⟨o, e, q⟩, k⟩ := h; ⟨⟨o, s _ _ e, q⟩, fun x hx => (k x hx).same fun b ys e => s _ _ e⟩
theorem DN.to (s : ∀ b ys, H b = some (.tup ys) -> H' b = some (.tup ys)) (e : H' a = H a) (h : DN P w H a xs) : DN P w H' a xs := let ⟨⟨o, e', q⟩, k⟩ := h; ⟨⟨o, e.trans e', q⟩, fun x hx => (k x hx).same s⟩
theorem DN.nodup (h : DN P w H a xs) : (xs.map (·.1)).Nodup := by
  obtain ⟨⟨o, e, _, _, us, es, ep, r, _, _, _, n⟩, _⟩ := h
  rw [r.keys]
  exact n
end
section
variable {X : Cx} {pins : List (Addr × Obj)} {σ : St} {H : Hp} {s : Shared} {A : Around} {E : Value -> Shared -> Prop} {k k' : NK} {v v' : V} {u : Value} {a : Addr} {xs : List (NK × V × V)}
theorem key_inj (I : Inv X pins σ H s) (hk : keyN H k v) (hk' : keyN H k' v) : k = k' := by
  have e := Isd.inj I (daN k) (daN k') (isd_N hk) (isd_N hk')
  have h1 := eqD_N k k
  have h2 := eqD_N k k'
  rw [<- e, h1] at h2
  simpa using h2.symm
theorem key_val (hk : keyN H k v) (hk' : keyN H k' v') (r : RelV v u) (r' : RelV v' u) : v = v' := by
  have kind : ∀ {k : NK} {v : V}, keyN H k v -> RelV v u -> (∃ i, v = .int i /\ ∃ t, u = .int i t) \/ (∃ z, v = .str z /\ ∃ t, u = .str z t) \/ ∃ b, v = .ref b /\ u = .ref b := fun {k v} hk r => by
    match k, hk with
    | .inl (.inl i), hk =>
      have hk : v = .int i := hk
      subst hk
      obtain ⟨t, rfl⟩ := r
      exact .inl ⟨i, rfl, t, rfl⟩
    | .inl (.inr z), hk =>
      have hk : v = .str z := hk
      subst hk
      obtain ⟨t, rfl⟩ := r
      exact .inr (.inl ⟨z, rfl, t, rfl⟩)
    | .inr (.inl ks), ⟨b, h1, _⟩ =>
      subst h1
      cases r
      exact .inr (.inr ⟨b, rfl, rfl⟩)
    | .inr (.inr sp), ⟨b, h1, _⟩ =>
      subst h1
      cases r
      exact .inr (.inr ⟨b, rfl, rfl⟩)
  rcases kind hk r with ⟨i, e1, t, e2⟩ | ⟨z, e1, t, e2⟩ | ⟨b, e1, e2⟩ <;> rcases kind hk' r' with ⟨i', e1', t', e2'⟩ | ⟨z', e1', t', e2'⟩ | ⟨b', e1', e2'⟩ <;> rw [e2] at e2' <;> first | (cases e2'; rw [e1, e1']) | cases e2'
theorem key_str {z : Str} {tk : Tok} (hk : keyN H k v) (r : RelV v u) : u.isStr z = decide (k = .inl (.inr z)) := by
  match k, hk with
  | .inl (.inl i), hk =>
    have hk : v = .int i := hk
    subst hk
    obtain ⟨t, rfl⟩ := r
    simp [Value.isStr]
  | .inl (.inr y), hk =>
    have hk : v = .str y := hk
    subst hk
    obtain ⟨t, rfl⟩ := r
    show (y == z) = _
    by_cases h : y = z <;> simp [h]
  | .inr (.inl ks), ⟨b, h1, _⟩ =>
    subst h1
    cases r
    simp [Value.isStr]
  | .inr (.inr sp), ⟨b, h1, _⟩ =>
    subst h1
    cases r
    simp [Value.isStr]
theorem find_N {o : Obj} {es : Array DictEntry} {ep : Nat} {us : List (NK × Value × Value)} {Q : Option Nat -> Shared -> Prop} (hu : A.units + 80 < cLine) (I : Inv X pins σ H s) (ho : s.heap.get? a = some o) (hd : o.data = .dict es ep) (he : es.toList = us.map (entryN X.prog X.w)) (nd : (us.map (·.1)).Nodup) (vm : VM xs us) (kx : ∀ x ∈ xs, keyN H x.1 x.2.1)
    (hk : keyN H k v) (r : RelV v u) (hnone : k ∉ us.map (·.1) -> Q none s) (hsome : ∀ (j : Nat) x, us[j]? = some x -> x.1 = k -> Q (some j) s) : wpAny (model X.prog X.w) A.in1 (dictFind a u (hashN X.prog X.w k)) Q E s := by
  have at_ : ∀ (i : Nat) e, es[i]? = some e -> ∃ x p, us[i]? = some x /\ e = entryN X.prog X.w x /\ xs[i]? = some p /\ keyN H x.1 p.2.1 /\ RelV p.2.1 x.2.1 := fun i e h => by
    have h' : es.toList[i]? = some e := by rw [Array.getElem?_toList]; exact h
    rw [he, List.getElem?_map] at h'
    obtain ⟨x, hx, rfl⟩ := Option.map_eq_some_iff.mp h'
    obtain ⟨p, hp, h1, h2, h3⟩ := vm.at hx
    exact ⟨x, p, hx, rfl, hp, by rw [<- h1]; exact kx p (List.mem_of_getElem? hp), h2⟩
  have sz : es.size = us.length := by
    have := congrArg List.length he
    rw [List.length_map] at this
    rw [<- this]
    simp
  have tt : ∀ (i : Nat) x, us[i]? = some x -> (decide ((us[i]?).map (·.1) = some k)) = decide (x.1 = k) := fun i x hx => by
    rw [hx]
    by_cases h : x.1 = k <;> simp [h]
  refine find_any (fun i => decide ((us[i]?).map (·.1) = some k)) ho hd (fun i e he' hh Q hq => ?_) (fun i j hi hj h1 h2 => ?_) (fun i e he' h1 => ?_) (fun Q hq => quiet_N I hk r hq) (fun i e he' Q hq => ?_) ?_ (fun i e he' hke => ?_) (fun z tk hz i e he' => ?_) (fun hf => hnone fun hm => ?_) (fun i hi h1 => ?_)
  · obtain ⟨x, p, hx, rfl, hp, h1, h2⟩ := at_ i e he'
    refine eq_N hu I h1 h2 hk r ?_
    rw [tt i x hx] at hq
    exact hq
  · have h1 := of_decide_eq_true h1
    have h2 := of_decide_eq_true h2
    rw [<- List.getElem?_map] at h1 h2
    exact (List.getElem?_inj (by rw [List.length_map, <- sz]; exact hi) nd).mp (h1.trans h2.symm)
  · obtain ⟨x, p, hx, rfl, _⟩ := at_ i e he'
    rw [tt i x hx] at h1
    show hashN X.prog X.w x.1 = _
    rw [of_decide_eq_true h1]
  · obtain ⟨x, p, hx, rfl, hp, h1, h2⟩ := at_ i e he'
    exact quiet_N I h1 h2 hq
  · match k, hk with
    | .inl (.inl n), hk =>
      have hk : v = .int n := hk
      subst hk
      obtain ⟨t, rfl⟩ := r
      exact .inl ⟨n, t, rfl⟩
    | .inl (.inr z), hk =>
      have hk : v = .str z := hk
      subst hk
      obtain ⟨t, rfl⟩ := r
      exact .inr (.inl ⟨z, t, rfl⟩)
    | .inr (.inl ks), ⟨b, h1, _⟩ =>
      subst h1
      cases r
      exact .inr (.inr ⟨b, rfl⟩)
    | .inr (.inr sp), ⟨b, h1, _⟩ =>
      subst h1
      cases r
      exact .inr (.inr ⟨b, rfl⟩)
  · obtain ⟨x, p, hx, rfl, hp, h1, h2⟩ := at_ i e he'
    have hke : x.2.1 = u := hke
    rw [hke] at h2
    have := key_val h1 hk h2 r
    rw [this] at h1
    show hashN X.prog X.w x.1 = _
    rw [key_inj I h1 hk]
  · obtain ⟨x, p, hx, rfl, hp, h1, h2⟩ := at_ i e he'
    rw [hz] at r
    have ek : k = .inl (.inr z) := by
      have := key_str (z := z) (tk := tk) hk r
      have h3 : (Value.str z tk).isStr z = true := by show (z == z) = true; simp
      rw [h3] at this
      exact of_decide_eq_true this.symm
    rw [tt i x hx, ek]
    exact key_str (tk := tk) h1 h2
  · obtain ⟨x, hx, e⟩ := List.mem_map.mp hm
    obtain ⟨i, hi⟩ := List.getElem?_of_mem hx
    have := hf i (by rw [sz]; exact lt_of_some hi)
    rw [tt i x hi, decide_eq_true e] at this
    cases this
  · obtain ⟨x, hx⟩ := some_of_lt (xs := us) (i := i) (by rw [<- sz]; exact hi)
    rw [tt i x hx] at h1
    exact hsome i x hx (of_decide_eq_true h1)
end
end L2
namespace L2
open PySem PySem.Spec PyProof.Rows
section
variable {K β γ : Type} [DecidableEq K]
theorem valM_nth {xs : List (K × β × γ)} (nd : (xs.map (·.1)).Nodup) {j : Nat} {x : K × β × γ} {k : K} (h : xs[j]? = some x) (e : x.1 = k) : valM xs k = some x.2.2 := by
  subst e
  exact valM_at nd h
theorem mod_M {δ : Type} (f : K × β × γ -> δ) (g : δ -> δ) (k : K) (v : γ) (hg : ∀ x, x.1 = k -> g (f x) = f (x.1, x.2.1, v)) : ∀ {xs : List (K × β × γ)} {j : Nat} {x : K × β × γ}, (xs.map (·.1)).Nodup -> xs[j]? = some x -> x.1 = k -> (xs.map f).modify j g = (xs.map fun x => if x.1 = k then (x.1, x.2.1, v) else x).map f
  | [], j, x, _, h, _ => by simp at h
  | y :: ys, 0, x, nd, h, e => by
    cases h
    rw [List.map_cons] at nd
    have n1 := (List.nodup_cons.mp nd).1
    rw [List.map_cons, List.map_cons, List.map_cons, List.modify_zero_cons, if_pos e, hg y e]
    congr 1
    rw [List.map_map]
    refine List.map_congr_left fun z hz => ?_
    show f z = f (if z.1 = k then _ else z)
    rw [if_neg fun q => n1 (by rw [e, <- q]; exact List.mem_map.mpr ⟨z, hz, rfl⟩)]
  | y :: ys, j + 1, x, nd, h, e => by
    rw [List.map_cons] at nd
    obtain ⟨n1, n2⟩ := List.nodup_cons.mp nd
    have h : ys[j]? = some x := h
    rw [List.map_cons, List.map_cons, List.map_cons, List.modify_succ_cons, mod_M f g k v hg n2 h e, if_neg fun q => n1 (by rw [q, <- e]; exact List.mem_map.mpr ⟨x, List.mem_of_getElem? h, rfl⟩)]
end
theorem vals_of : ∀ {vs : List V} {us : List Value}, us.length = vs.length -> (∀ (i : Nat) v u, vs[i]? = some v -> us[i]? = some u -> RelV v u) -> Vals vs us
  | [], [], _, _ => .nil
  | [], _ :: _, h, _ => by simp at h
  | _ :: _, [], h, _ => by simp at h
  | v :: vs, u :: us, h, r => .cons (r 0 v u rfl rfl) (vals_of (by simpa using h) fun i v u h1 h2 => r (i + 1) v u h1 h2)
section
variable {X : Cx} {pins : List (Addr × Obj)} {σ : St} {H : Hp} {s : Shared} {A : Around} {E : Value -> Shared -> Prop} {k : NK} {v kv : V} {u r : Value} {a : Addr} {xs : List (NK × V × V)}
theorem dn_of (I : Inv X pins σ H s) (d : DN X.prog X.w H a xs) : xs.length <= sizeLine /\ (a == sysModules) = false /\ ∃ o us es ep, VM xs us /\ s.heap.get? a = some o /\ o.ExactDict /\ o.data = .dict es ep /\ es.toList = us.map (entryN X.prog X.w) /\ (us.map (·.1)).Nodup := by
  obtain ⟨⟨o, e0, z, y, us, es, ep, r, e2, e3, e4, e5⟩, kk⟩ := d
  exact ⟨z, y, o, us, es, ep, r, pin_at I.hok e0, e2, e3, e4, e5⟩
theorem dn_type (I : Inv X pins σ H s) (d : DN X.prog X.w H a xs) : s.TypeIs (.ref a) "dict" := let ⟨_, _, o, _, _, _, _, h1, h2, _⟩ := dn_of I d; ⟨o, h1, h2.1⟩
theorem n_look {Q : Option Value -> Shared -> Prop} (hu : A.units + 80 < cLine) (I : Inv X pins σ H s) (d : DN X.prog X.w H a xs) (hk : keyN H k kv) (rk : RelV kv u) (h : ∀ w' s', Inv X pins σ H s' -> RelO (valM xs k) w' -> Q w' s') : wpAny (model X.prog X.w) A.in1 (dictGet a u) Q E s := by
  obtain ⟨z, y, o, us, es, ep, vm, ho, hx, hd, he, nd⟩ := dn_of I d
  have kx := d.2
  unfold dictGet
  try with_reducible refine wpAny_holding ?_
  refine wpAny_bind (hash_N hu I hk rk fun tk => wpAny_bind (find_N hu (I.tok tk) (s := { s with toks := tk }) ho hd he nd vm kx hk rk (fun hno => ?_) fun j x hj hjk => ?_))
  · refine wpAny_pure (h _ _ (I.tok tk) ?_)
    have := vm.val k
    rw [valM_none hno] at this
    exact this
  · refine wpAny_bind (wpAny_dictEntries (s := { s with toks := tk }) ho hd ?_)
    have e1 : es[j]? = some (entryN X.prog X.w x) := by rw [<- Array.getElem?_toList, he, List.getElem?_map, hj]; rfl
    rw [e1]
    refine wpAny_pure (h _ _ (I.tok tk) ?_)
    have := vm.val k
    rw [valM_nth nd hj hjk] at this
    exact this
theorem n_getItem {Q : Value -> Shared -> Prop} (hu : A.units + 80 < cLine) (I : Inv X pins σ H s) (d : DN X.prog X.w H a xs) (hk : keyN H k kv) (rk : RelV kv u) (hv : valM xs k = some v) (h : ∀ w' s', Inv X pins σ H s' -> RelV v w' -> Q w' s') : wpAny (model X.prog X.w) A (getItem (.ref a) u) Q E s := by
  have ty := dn_type I d
  unfold getItem
  try with_reducible refine wpAny_holding ?_
  refine wpAny_bind (wpAny_sequenceKey ty (by decide) (wpAny_bind (wpAny_callSpecial?_slot (name := Str.ofString "__getitem__") ty slot_dict_getitem (wpAny_call_entry slot_dict_getitem ty entry_dict_getitem ?_ (args_dict_getitem _ _)))))
  show wpAny _ _ (dictGet a u >>= _) _ _ s
  refine wpAny_bind (n_look hu I d hk rk fun w' s' I' ro => ?_)
  rw [hv] at ro
  obtain ⟨w2, rfl, rw2⟩ := RelO.some_of ro
  exact wpAny_pure ⟨w2, rfl, wpAny_pure (h w2 s' I' rw2)⟩
theorem n_has {Q : Bool -> Shared -> Prop} (hu : A.units + 80 < cLine) (I : Inv X pins σ H s) (d : DN X.prog X.w H a xs) (hk : keyN H k kv) (rk : RelV kv u) (h : ∀ s', Inv X pins σ H s' -> Q (valM xs k).isSome s') : wpAny (model X.prog X.w) A (contains (.ref a) u) Q E s := by
  have ty := dn_type I d
  have ns := (dn_of I d).2.1
  unfold contains
  try with_reducible refine wpAny_holding ?_
  refine wpAny_bind (wpAny_specialOf ty slot_dict_contains.lookup ?_)
  dsimp only
  rw [if_neg (by rw [beq_builtin_none]; exact Bool.false_ne_true)]
  refine wpAny_bind (wpAny_callSpecialUnlessNone?_slot (name := Str.ofString "__contains__") ty slot_dict_contains (wpAny_call_entry slot_dict_contains ty entry_dict_contains ?_ (args_dict_contains _ _)))
  show wpAny _ _ (dictGet a u >>= _) _ _ s
  refine wpAny_bind (n_look hu I d hk rk fun w' s' I' ro => ?_)
  have q := ro.isSome_eq
  cases w' with
  | some w2 =>
    rw [q] at h
    exact wpAny_pure ⟨_, rfl, wpAny_truthy_bool (h s' I')⟩
  | none =>
    rw [q] at h
    exact wpAny_bind (wpAny_pendingKey_other ns (wpAny_pure ⟨_, rfl, wpAny_truthy_bool (h s' I')⟩))
theorem op_inN (hu : X.A.units + 80 < cLine) : OpR X (compareOp .In) (fun x y H Q => ∃ a xs k, y = .ref a /\ DN X.prog X.w H a xs /\ keyN H k x /\ Q (.bl (valM xs k).isSome) H) := by
  intro pins s σ H x y v u Q I rx ry h
  obtain ⟨a, xs, k, rfl, d, ks, q⟩ := h
  cases ry
  exact wpAny_bind (m := contains (.ref a) v) (n_has hu I d ks rx fun s' I' => wpAny_pure ⟨.bl _, H, I', rfl, q⟩)
theorem op_notInN (hu : X.A.units + 80 < cLine) : OpR X (compareOp .NotIn) (fun x y H Q => ∃ a xs k, y = .ref a /\ DN X.prog X.w H a xs /\ keyN H k x /\ Q (.bl (!(valM xs k).isSome)) H) := by
  intro pins s σ H x y v u Q I rx ry h
  obtain ⟨a, xs, k, rfl, d, ks, q⟩ := h
  cases ry
  exact wpAny_bind (m := contains (.ref a) v) (n_has hu I d ks rx fun s' I' => wpAny_pure ⟨.bl _, H, I', rfl, q⟩)
theorem n_setItem {Q : Unit -> Shared -> Prop} (hu : A.units + 80 < cLine) (I : Inv X pins σ H s) (d : DN X.prog X.w H a xs) (hk : keyN H k kv) (rk : RelV kv u) (l : xs.length < sizeLine) (rv : RelV v r) (h : ∀ o s', ObN X.prog X.w a (putM xs k kv v) o -> Inv X pins σ (upd H a (pinO a o)) s' -> Q () s') : wpAny (model X.prog X.w) A (setItem (.ref a) u r) Q E s := by
  have ty := dn_type I d
  obtain ⟨z, ns, o, us, es, ep, vm, ho, hx, hd, he, nd⟩ := dn_of I d
  have hl : (putM xs k kv v).length <= sizeLine := by have := putM_len xs k kv v; omega
  have hz : es.size <= sizeLine := by rw [<- Array.length_toList, he, List.length_map, <- Paired.length vm]; exact z
  have e0 : ∃ o0, H a = some (pinO a o0) := let ⟨⟨o0, e0, _⟩, _⟩ := d; ⟨o0, e0⟩
  obtain ⟨o0, e0⟩ := e0
  have fin : ∀ h' o' es' ep' (tk : Nat), h'.get? a = some o' -> Heap.SameBut a s.heap h' -> o'.ExactDict -> o'.data = .dict es' ep' -> es'.toList = (putM us k u r).map (entryN X.prog X.w) -> Q () { s with heap := h', toks := tk } := fun h' o' es' ep' tk g1 g2 g3 g4 g5 => by
    refine h o' _ ⟨hl, ns, _, es', ep', vm.put k rk rv, g3, g4, g5, ?_⟩ (d_write I (by rw [e0]; exact True.intro) g2 ⟨o', g1⟩ (pin_ok g1))
    rw [putM_keys]
    split
    · exact nd
    · rename_i hno
      refine List.nodup_append.mpr ⟨nd, by simp, fun x hx y hy => ?_⟩
      rw [List.mem_singleton.mp hy]
      exact fun e => hno (e ▸ hx)
  unfold setItem
  try with_reducible refine wpAny_holding ?_
  refine wpAny_bind (wpAny_sequenceKey ty (by decide) (wpAny_bind (wpAny_callSpecial?_slot (name := Str.ofString "__setitem__") ty slot_dict_setitem (wpAny_call_entry slot_dict_setitem ty entry_dict_setitem ?_ (args_dict_setitem _ _ _)))))
  show wpAny _ _ (Builtin.Dict.notOrdered "__setitem__" ⟨[.ref a, u, r], []⟩ >>= _) _ _ s
  refine wpAny_bind (wpAny_notOrdered_dict ty ?_)
  show wpAny _ _ (dictSet a u r >>= _) _ _ s
  refine wpAny_bind ?_
  unfold dictSet
  try with_reducible refine wpAny_holding ?_
  refine wpAny_bind (hash_N hu I hk rk fun tk => ?_)
  unfold dictSetHashed
  try with_reducible refine wpAny_holding ?_
  refine wpAny_bind (find_N hu (I.tok tk) (s := { s with toks := tk }) ho hd he nd vm d.2 hk rk (fun hno => ?_) fun j x hj hjk => ?_)
  · refine wpAny_bind (wpAny_rule (wpAny_updateDictKeys (hz := hz) (s := { s with toks := tk }) ho hd (wpAny_pure ⟨.none, rfl, wpAny_pure (fin _ _ _ _ tk (Heap.get?_update_self _ ho (Obj.isFreed_of_dict (Obj.data_mapDictKeys hd _))) (Heap.SameBut.update ..) (hx.mapDictKeys _) (Obj.data_mapDictKeys hd _) ?_)⟩)))
    unfold putM
    rw [valM_none hno, if_neg (by simp), List.map_append, <- he]
    simp [entryN]
  · refine wpAny_bind (wpAny_rule (wpAny_bind (wpAny_updateDict (s := { s with toks := tk }) ho hd (wpAny_point (wpAny_pure ⟨.none, rfl, wpAny_pure (fin _ _ _ _ tk (Heap.get?_update_self _ ho (Obj.isFreed_of_dict (Obj.data_mapDict hd _))) (Heap.SameBut.update ..) (hx.mapDict _) (Obj.data_mapDict hd _) ?_)⟩)))))
    unfold putM
    rw [valM_nth nd hj hjk, Option.isSome_some, if_pos rfl]
    have := mod_M (entryN X.prog X.w) (fun e : DictEntry => { e with val := r }) k r (fun x hx => rfl) nd hj hjk
    rw [<- he] at this
    obtain ⟨l⟩ := es
    simpa using this
theorem putM_key (h : ∀ x ∈ xs, keyN H x.1 x.2.1) (hk : keyN H k kv) : ∀ x ∈ putM xs k kv v, keyN H x.1 x.2.1 := fun x hx => by
  unfold putM at hx
  split at hx
  · obtain ⟨y, hy, rfl⟩ := List.mem_map.mp hx
    split
    · exact h y hy
    · exact h y hy
  · rcases List.mem_append.mp hx with g | g
    · exact h x g
    · rw [List.mem_singleton.mp g]
      exact hk
theorem DN.put {P : Program} {w : World} {o : Obj} (d : DN P w H a xs) (ks : keyN H k kv) (ob : ObN P w a (putM xs k kv v) o) : DN P w (upd H a (pinO a o)) a (putM xs k kv v) := by
  obtain ⟨⟨o0, e0, _⟩, kk⟩ := d
  refine ⟨⟨o, upd_same, ob⟩, fun x hx => (putM_key kk ks x hx).same fun c ys e => ?_⟩
  rw [upd_ne (ne_of e e0 (fun z => nomatch z))]
  exact e
theorem DN.new {P : Program} {w : World} {p : Addr} {o : Obj} (ob : ObN P w p [] o) : DN P w (upd H p (pinO p o)) p [] := ⟨⟨o, upd_same, ob⟩, fun x hx => nomatch hx⟩
def tDGetN (P : Program) (w : World) (td ty : TE) : TE := fun σ H Q => td σ H fun x H1 => ty σ H1 fun y H2 => ∃ a xs k v, x = .ref a /\ DN P w H2 a xs /\ keyN H2 k y /\ valM xs k = some v /\ Q v H2
theorem qe_dgetN {o i : Expr} {pos : Pos} {td ty : TE} (hu : X.A.units + 80 < cLine) (ho : QE X o td) (hi : QE X i ty) (hs : NoSl i := by intro _ _; rfl) : QE X (.Subscript o i pos) (tDGetN X.prog X.w td ty) := ⟨fun pins s σ H Q I h => by
  refine subD_of PySem.F.slot_dict_getitem.lookup hs (thn (ho.h pins s σ H _ I h) fun u s1 ⟨x, H1, I1, rx, q1⟩ => thn (hi.h pins s1 σ H1 _ I1 q1) fun iv s2 ⟨y, H2, I2, ry, a, xs, k, v, ex, d, ks, hv, q2⟩ => ?_)
  subst ex
  cases rx
  exact ⟨dn_type I2 d, n_getItem hu I2 d ks ry hv fun w' s3 I3 rw' => ⟨v, H2, I3, rw', q2⟩⟩⟩
def sDPutN (P : Program) (w : World) (td ty tv : TE) : TS := fun D σ H => tv σ H fun v H1 => td σ H1 fun x H2 => ty σ H2 fun y H3 => ∃ a xs k, x = .ref a /\ DN P w H3 a xs /\ keyN H3 k y /\ xs.length < sizeLine /\ ∀ o, ObN P w a (putM xs k y v) o -> D.nx σ (upd H3 a (pinO a o))
theorem qs_dputN {o i value : Expr} {pos pos' : Pos} {td ty tv : TE} (hu : X.A.units + 80 < cLine) (ho : QE X o td) (hi : QE X i ty) (hv : QE X value tv) (hs : swapsWith value (some (.Subscript o i pos')) pos.line X.env = pure false := by rfl) : QS X (.Assign [.Subscript o i pos'] value pos) (sDPutN X.prog X.w td ty tv) := ⟨fun pins s σ H D I h => by
  refine wpAny_Assign_Subscript (thn (hv.h pins s σ H _ I h) fun r s1 ⟨v, H1, I1, rv, q1⟩ => thn (ho.h pins s1 σ H1 _ I1 q1) fun u s2 ⟨x, H2, I2, rx, q2⟩ => thn (hi.h pins s2 σ H2 _ I2 q2) fun iv s3 ⟨y, H3, I3, ry, a, xs, k, ex, d, ks, l, q3⟩ => ?_) hs
  subst ex
  cases rx
  exact n_setItem hu I3 d ks ry l rv fun o s4 ob I4 => ⟨σ, _, I4, q3 o ob⟩⟩
def tDNewN (P : Program) (w : World) : TE := fun _ H Q => ∀ p o, H p = none -> ObN P w p [] o -> Q (.ref p) (upd H p (pinO p o))
theorem qe_dnewN {pos : Pos} : QE X (.Dict [] [] pos) (tDNewN X.prog X.w) := ⟨fun pins s σ H Q I h => by
  have e : (s.heap.push { cls := .type "dict", data := .dict #[] }).get? s.heap.objs.size = some { cls := .type "dict", data := .dict #[] } := Heap.get?_push_size _ rfl
  refine wpAny_Dict_empty ⟨.ref s.heap.objs.size, _, I.laid (a := s.heap.objs.size) (o := pinO s.heap.objs.size { cls := .type "dict", data := .dict #[] }) (t' := s.toks) (fun _ _ q => Heap.get?_push_of_some _ q) (Nat.le_refl _) (pin_ok e), rfl, h _ _ (I.hok.fresh (Nat.le_refl _)) ⟨Nat.zero_le _, beq_eq_false_iff_ne.mpr (Ne.symm (Nat.ne_of_lt I.big)), [], #[], _, .nil, ?_, rfl, rfl, .nil⟩⟩
  first | exact ⟨rfl, rfl⟩ | (constructor <;> rfl) | (unfold Obj.ExactDict; simp)⟩
end
def ItN (d : Addr) (o : Obj) (ks : List V) : It := ⟨fun i H => i < ks.length /\ H d = some (pinO d o), fun i H x H' => H' = H /\ ks[i]? = some x, fun i H => i = ks.length /\ H d = some (pinO d o)⟩
def KeysN (es : Array DictEntry) (ks : List V) : Prop := es.size = ks.length /\ ∀ (i : Nat) (e : DictEntry), es[i]? = some e -> ∃ v, ks[i]? = some v /\ RelV v e.key
theorem turn_keysN {P : Program} {w : World} {F : PySem.W.Frag} {tg : Expr} {d it : Addr} {o : Obj} {es : Array DictEntry} {ep : Nat} {ks : List V} (ne : d ≠ it) (hx : o.ExactDict) (hd : o.data = .dict es ep) (hk : KeysN es ks) :
    Turn P w F tg (ItN d o ks) [it] it (fun i h => h.IsKeyIter it d i es.size ep) where
  mem := by simp
  obj := fun i h st b hb => by
    have e : b = it := by simpa using hb
    subst e
    obtain ⟨o, e, c, d⟩ := st
    exact ⟨o, e, fun v z => by rw [d] at z; cases z⟩
  keep := fun i h h' st k => st.at fun o e => k it (by simp) o e
  item := by
    intro X hP hw hK hc i pins s σ H E I hf st hg
    subst hP hw hK
    obtain ⟨f0, f1, f2, f3, f4, f5⟩ := hf it (by simp)
    have hlt : i < es.size := by rw [hk.1]; exact hg.1
    obtain ⟨a, ha, hke⟩ := hk.2 i _ (Array.getElem?_eq_getElem hlt)
    refine raw_next st ⟨o, pin_at I.hok hg.2, hx, hd⟩ (Array.getElem?_eq_getElem hlt) fun h' st' sb => ?_
    have I1 : Inv X pins σ H { s with heap := h' } := I.turned (t' := s.toks) (fun b o hb e => (sb.2 b hb).trans e) f0 f1 f3 f4 f5
    obtain ⟨oi, e1, c1, d1⟩ := id st'
    exact ⟨_, rfl, go_of (s := { s with heap := h' }) e1 c1 d1 (by decide) ⟨a, H, I1, hke, ⟨rfl, ha⟩, st', fun b hb => (hf b hb).1⟩⟩
  done := by
    intro X hP hw hK hc i pins s σ H E I hf st hg
    subst hP hw hK
    obtain ⟨f0, f1, f2, f3, f4, f5⟩ := hf it (by simp)
    have e : i = es.size := by rw [hk.1]; exact hg.1
    subst e
    exact raw_end (I.ok.hd hc) st ⟨o, pin_at I.hok hg.2, hx, hd⟩ fun h' eb => ⟨rfl, I.turned (t' := s.toks) (fun b o hb e => eb b o hb e) f0 f1 f3 f4 f5⟩
  self := fun _ _ _ _ _ st h => wpAny_pyIter_keyiter st h
theorem keys_areN {P : Program} {w : World} {xs : List (NK × V × V)} {us : List (NK × Value × Value)} {es : Array DictEntry} (r : VM xs us) (he : es.toList = us.map (entryN P w)) : KeysN es (xs.map (·.2.1)) := by
  have e1 : es.size = xs.length := by rw [Paired.length r, <- List.length_map (f := entryN P w), <- he]; simp
  refine ⟨by rw [e1, List.length_map], fun i e h => ?_⟩
  have h2 : es.toList[i]? = some e := by rw [Array.getElem?_toList]; exact h
  rw [he, List.getElem?_map] at h2
  obtain ⟨x, hx, rfl⟩ := Option.map_eq_some_iff.mp h2
  obtain ⟨p, hp, _, h3, _⟩ := r.at hx
  exact ⟨p.2.1, by rw [List.getElem?_map, hp]; rfl, h3⟩
section
variable {X : Cx} {tg : Expr}
def iKeysN (P : Program) (w : World) (te : TE) : TI := fun σ H R => te σ H fun x H1 => ∃ d xs, x = .ref d /\ DN P w H1 d xs /\ ∀ o, H1 d = some (pinO d o) -> R (ItN d o (xs.map (·.2.1))) H1
theorem qi_keysN {e : Expr} {te : TE} (he : QE X e te) : QI X tg e (iKeysN X.prog X.w te) := ⟨fun pins s σ H R I h => by
  refine thn (he.h pins s σ H _ I h) fun v s1 ⟨x, H1, I1, r1, d, xs, ex, dd, q⟩ => ?_
  subst ex
  cases r1
  obtain ⟨⟨o, e0, z, ns, us, es, ep, rel, hx, hd, h4, _⟩, _⟩ := dd
  have g := pin_at I1.hok e0
  refine raw_iter ns ⟨o, g, hx, hd⟩ ?_
  refine ⟨s1.heap.objs.size, [s1.heap.objs.size], _, _, H1, rfl, I1.kept (t' := s1.toks) fun b o e => Heap.get?_push_of_some _ e, turn_keysN (Nat.ne_of_lt (Heap.lt_size g)) hx hd (keys_areN rel h4), ⟨_, Heap.get?_push_size _ rfl, rfl, rfl⟩, fun b hb => ?_, q o e0⟩
  have e : b = s1.heap.objs.size := by simpa using hb
  subst e
  exact I1.fpOk (Nat.le_refl _) (I1.hok.fresh (Nat.le_refl _))⟩
theorem for_keysN {d : Addr} {o : Obj} {ks : List V} {g : TG} {tb : TS} {D : Ends} {σ : St} {H : Hp} (Pv : Nat -> St -> Hp -> Prop) (h0 : Pv 0 σ H) (hl : ∀ i σ H, i <= ks.length -> Pv i σ H -> H d = some (pinO d o))
    (hs : ∀ i x σ H, ks[i]? = some x -> Pv i σ H -> g x σ H fun σ2 H2 => tb { D with nx := Pv (i + 1), ct := Pv (i + 1), bk := D.nx } σ2 H2) (hd : ∀ σ H, Pv ks.length σ H -> D.nx σ H) :
    ∃ W : Nat -> Nat -> St -> Hp -> Prop, (∃ m, W 0 m σ H) /\ ∀ i m σ H, W i m σ H ->
      ((ItN d o ks).stop i H /\ D.nx σ H) \/ ((ItN d o ks).go i H /\ ∃ N : St -> Hp -> Prop, (∀ σ' H', N σ' H' -> ∃ m', m' < m /\ W (i + 1) m' σ' H') /\ ∀ x H', (ItN d o ks).yld i H x H' -> g x σ H' fun σ2 H2 => tb { D with nx := N, ct := N, bk := D.nx } σ2 H2) := by
  refine ⟨fun i m σ H => m = ks.length - i /\ i <= ks.length /\ Pv i σ H, ⟨_, rfl, Nat.zero_le _, h0⟩, ?_⟩
  rintro i m σ H ⟨rfl, hi, p⟩
  have q := hl i σ H hi p
  by_cases hlt : i < ks.length
  · refine .inr ⟨⟨hlt, q⟩, Pv (i + 1), fun σ' H' p' => ⟨ks.length - (i + 1), by omega, rfl, hlt, p'⟩, ?_⟩
    rintro x H' ⟨rfl, ha⟩
    exact hs i x σ H' ha p
  · have e : i = ks.length := by omega
    subst e
    exact .inl ⟨⟨rfl, q⟩, hd σ H p⟩
def tListN (P : Program) (w : World) (te : TE) : TE := fun σ H Q => te σ H fun x H1 => ∃ a xs, x = .ref a /\ DN P w H1 a xs /\ ∀ r, H1 r = none -> Q (.ref r) (upd H1 r (.lst (xs.map (·.2.1))))
theorem qe_listN {e : Expr} {te : TE} {p1 q1 : Pos} (hc : X.calm = true) (g1 : Gl X "list") (m1 : X.mg "list" = none) (he : QE X e te) (hs1 : starEach [e] X.env = [(false, eval e X.env)] := by rfl) :
    QE X (.Call (.Name "list" p1) [e] [] q1) (tListN X.prog X.w te) := ⟨fun pins s σ H Q I h => by
  refine Call_ (ld_blt I g1 m1 PyProof.Rows.boot_list (PyProof.Rows.callWith_type1 ?_ hs1 rfl))
  rw [hs1]
  show wpAny _ _ (spliced ((false, eval e X.env) :: backTo q1 [])) _ _ s
  refine Calls.spliced_cons (thn (he.h pins s σ H _ I h) fun u s1 ⟨x, H1, I1, r1, a, xs, ex, ds, k⟩ => ?_)
  subst ex
  cases r1
  refine Calls.spliced_nil ?_
  obtain ⟨⟨o, e0, z, ns, us, es, ep, rel, hx, hd, h4, _⟩, kk⟩ := ds
  clear kk
  have ka := keys_areN rel h4
  refine keys_list (I1.ok.hd hc) ns ⟨o, pin_at I1.hok e0, hx, hd⟩ (fun h' tk acc c' hk hS ha => ?_) (by rw [ka.1, List.length_map]; exact z)
  have rv : Vals (xs.map (·.2.1)) acc.toList := by
    obtain ⟨a1, a2⟩ := ha
    refine vals_of (by rw [<- ka.1, <- a1]; simp) fun i v u h1 h2 => ?_
    have h3 : acc[i]? = some u := by rw [<- Array.getElem?_toList]; exact h2
    obtain ⟨e, g1, g2⟩ := a2 i u h3
    obtain ⟨b, b1, b2⟩ := ka.2 i e g1
    rw [h1] at b1
    cases b1
    rw [g2]
    exact b2
  refine ⟨.ref s1.heap.objs.size, _, I1.laid (t' := tk) (fun b u eb => hk b u eb) (Nat.le_refl _) (show ObjOk X.prog X.w _ h' _ (.lst (xs.map (·.2.1))) from ⟨by rw [List.length_map]; exact z, acc.toList, c', rv, ?_⟩), rfl, k _ I1.fresh⟩
  rw [hS]⟩
def rGetN (P : Program) (w : World) : V -> V -> Hp -> VK -> Prop := fun o y H Q => ∃ a xs k v, o = .ref a /\ DN P w H a xs /\ keyN H k y /\ valM xs k = some v /\ Q v H
def rSetN (P : Program) (w : World) : TSet := fun o y v H Q => ∃ a xs k, o = .ref a /\ DN P w H a xs /\ keyN H k y /\ xs.length < sizeLine /\ ∀ ob, ObN P w a (putM xs k y v) ob -> Q (upd H a (pinO a ob))
theorem get_N (hu : X.A.units + 80 < cLine) : PGet X (rGetN X.prog X.w) := by
  intro pins s σ H o i ov iv Q I ro ri h
  obtain ⟨a, xs, k, v, rfl, d, ks, hv, q⟩ := h
  cases ro
  exact n_getItem hu I d ks ri hv fun w' s' I' r' => ⟨v, H, I', r', q⟩
theorem set_N (hu : X.A.units + 80 < cLine) : PSet X (rSetN X.prog X.w) := by
  intro pins s σ H o i v ov iv u Q I ro ri rv h
  obtain ⟨a, xs, k, rfl, d, ks, l, q⟩ := h
  cases ro
  exact n_setItem hu I d ks ri l rv fun ob s' hob I' => ⟨_, I', q ob hob⟩
end
end L2
namespace L2
open PySem PySem.Spec PyProof.Rows
section
variable {X : Cx} {pins : List (Addr × Obj)} {σ : St} {H : Hp} {s : Shared} {A : Around} {E : Value -> Shared -> Prop} {a b : Addr} {xs ys : List (NK × V × V)}
def SameN (K : PySem.W.Frag) (H : Hp) (xs ys : List (NK × V × V)) : Prop := xs.length = ys.length /\ ∀ x ∈ xs, ∃ v d, valM ys x.1 = some v /\ Isd K H d x.2.2 /\ Isd K H d v /\ depD d <= 50
theorem n_same {Q : Bool -> Shared -> Prop} {id : String} (hu : A.units + 80 < cLine) (I : Inv X pins σ H s) (da : DN X.prog X.w H a xs) (db : DN X.prog X.w H b ys) (e : SameN X.K H xs ys) (h : Q true s) : wpAny (model X.prog X.w) A.in1 (Builtin.Dict.samePairs id a b) Q E s := by
  obtain ⟨za, na, oa, ua, ea, pa, va, ha, xa, dda, lea, nda⟩ := dn_of I da
  obtain ⟨zb, nb, ob, ub, eb, pb, vb, hb, xb, ddb, leb, ndb⟩ := dn_of I db
  have sz : ea.size = eb.size := by rw [<- Array.length_toList, <- Array.length_toList, lea, leb, List.length_map, List.length_map, <- Paired.length va, <- Paired.length vb, e.1]
  have sa : ea.size = ua.length := by rw [<- Array.length_toList, lea, List.length_map]
  unfold Builtin.Dict.samePairs Builtin.Dict.showsAll
  rw [if_neg (by rw [na]; exact Bool.false_ne_true), if_neg (by rw [nb]; exact Bool.false_ne_true)]
  refine wpAny_bind (wpAny_pure (wpAny_bind (wpAny_pure (wpAny_bind (wpAny_dictEntries ha dda (wpAny_bind (wpAny_dictEntries hb ddb ?_)))))))
  dsimp only
  rw [if_neg (by rw [sz]; simp)]
  refine wpAny_bind (wpAny_dictEpoch ha dda ?_)
  rw [Std.Legacy.Range.forIn_eq_forIn_range']
  simp only [Std.Legacy.Range.size, Nat.sub_zero, Nat.add_sub_cancel, Nat.div_one]
  refine wpAny_bind (wpAny_forIn_list _ (fun l r s' => (∃ j, j + l.length = ea.size /\ l = List.range' j l.length) /\ r.1 = none /\ s' = s) _ ?_ ?_ _ _ ⟨⟨0, by simp, by simp⟩, rfl, rfl⟩)
  · rintro j rest r s' ⟨⟨j0, hj0, hl0⟩, hr, rfl⟩
    rw [List.length_cons, List.range'_succ] at hl0
    obtain ⟨rfl, hrest⟩ := List.cons.inj hl0
    rw [List.length_cons] at hj0
    have hlt : j < ea.size := by omega
    refine wpAny_bind (wpAny_dictEntries ha dda ?_)
    obtain ⟨x, hx⟩ := some_of_lt (xs := ua) (i := j) (by omega)
    have e1 : ea[j]? = some (entryN X.prog X.w x) := by rw [<- Array.getElem?_toList, lea, List.getElem?_map, hx]; rfl
    rw [e1]
    dsimp only
    obtain ⟨p, hp, h1, h2, h3⟩ := va.at hx
    obtain ⟨v, d, hv, i1, i2, i3⟩ := e.2 p (List.mem_of_getElem? hp)
    have kp := da.2 p (List.mem_of_getElem? hp)
    refine wpAny_bind (wpAny_holding ?_)
    have rv := vb.val p.1
    rw [hv] at rv
    obtain ⟨w2, hw2, rw2⟩ := RelO.some_of rv
    show wpAny _ _ (dictFind b x.2.1 (hashN X.prog X.w x.1) >>= _) _ _ _
    rw [<- h1]
    refine wpAny_bind (find_N hu I hb ddb leb ndb vb db.2 kp h2 (fun hno => ?_) fun i y hy hyk => ?_)
    · rw [valM_none hno] at hw2
      cases hw2
    · rw [valM_nth ndb hy hyk] at hw2
      cases hw2
      refine wpAny_bind (wpAny_dictEntries hb ddb ?_)
      have e2 : eb[i]? = some (entryN X.prog X.w y) := by rw [<- Array.getElem?_toList, leb, List.getElem?_map, hy]; rfl
      rw [e2]
      dsimp only
      refine wpAny_holding ?_
      refine eqAt_D I 50 d d i3 i1 i2 h3 rw2 (show A.in1.units + 50 < cLine from by show A.units + _ + 50 < cLine; omega) X.prog X.w _ _ ?_
      rw [eqD_refl d i1]
      rw [if_neg (by decide)]
      refine wpAny_bind (wpAny_dictEpoch ha dda ?_)
      rw [if_neg (by simp)]
      exact wpAny_pure ⟨⟨j + 1, by omega, hrest⟩, rfl, rfl⟩
  · rintro r s' ⟨_, hr, rfl⟩
    rw [hr]
    exact wpAny_pure h
theorem dict_sub : isSubtype (.type "dict") (.type "dict") = pure true := by rw [isSubtype_type]; kernel_rfl
theorem op_neN (hu : X.A.units + 80 < cLine) : OpR X (compareOp .NotEq) (fun x y H Q => ∃ a b xs ys, x = .ref a /\ y = .ref b /\ DN X.prog X.w H a xs /\ DN X.prog X.w H b ys /\ SameN X.K H xs ys /\ Q (.bl false) H) := by
  intro pins s σ H x y v u Q I rx ry h
  obtain ⟨a, b, xs, ys, rfl, rfl, da, db, e, q⟩ := h
  cases rx
  cases ry
  refine wpAny_richCompare_same_room (op := .NotEq) (dn_type I da) (dn_type I db) F.slot_dict_ne (wpAny_call_entry F.slot_dict_ne (dn_type I da) F.entry_dict_ne ?_ (F.args_dict_ne_2 _ _)) (by omega)
  show wpAny _ _ (Builtin.Dict.dictSlotArgs "__ne__" ⟨[.ref a, .ref b], []⟩ >>= _) _ _ s
  refine wpAny_bind ?_
  unfold Builtin.Dict.dictSlotArgs
  refine wpAny_bind (wpAny_notOrdered_dict (dn_type I da) (wpAny_bind (m := slotArgs _ 1 _) (wpAny_pure (wpAny_pure ?_))))
  refine wpAny_bind (wpAny_isInstance (dn_type I db) dict_sub ?_)
  rw [if_neg (by decide)]
  exact wpAny_bind (m := Builtin.Dict.addrOf _) (wpAny_pure (wpAny_bind (m := Builtin.Dict.addrOf _) (wpAny_pure (wpAny_bind (n_same hu I da db e (wpAny_pure ⟨_, rfl, (fun z => nomatch z), .bl false, H, I, rfl, q⟩))))))
end
end L2
namespace L2
open PySem PySem.Spec PyProof.Rows
section
variable {X : Cx}
end
structure Nd (H : Hp) (κ : V -> NK) (vs : List V) : Prop where
  key : ∀ v ∈ vs, keyN H (κ v) v
  inj : ∀ v ∈ vs, ∀ u ∈ vs, κ v = κ u -> v = u
theorem Nd.to {H H' : Hp} {κ : V -> NK} {vs : List V} (n : Nd H κ vs) (s : ∀ b ys, H b = some (.tup ys) -> H' b = some (.tup ys)) : Nd H' κ vs := ⟨fun v hv => (n.key v hv).same s, n.inj⟩
theorem Nd.same {H H' : Hp} {κ : V -> NK} {vs : List V} (n : Nd H κ vs) (s : Same H H') : Nd H' κ vs := n.to fun b ys e => s _ _ e
def row (κ : V -> NK) (f : V -> V) (v : V) : NK × V × V := (κ v, v, f v)
def setF (f : V -> V) (v x : V) : V -> V := fun u => if u = v then x else f u
theorem setF_at {f : V -> V} {v x : V} : setF f v x v = x := if_pos rfl
theorem setF_ne {f : V -> V} {v x u : V} (h : u ≠ v) : setF f v x u = f u := if_neg h
section
variable {H : Hp} {κ : V -> NK} {vs ks us : List V} {f g : V -> V} {v u x : V}
theorem row_keys : (ks.map (row κ f)).map (·.1) = ks.map κ := by rw [List.map_map]; rfl
theorem row_vals : (ks.map (row κ f)).map (·.2.1) = ks := by
  rw [List.map_map]
  conv => rhs; rw [<- List.map_id ks]
  rfl
theorem Nd.mem (n : Nd H κ vs) (hv : v ∈ vs) (hs : ∀ k ∈ ks, k ∈ vs) (h : κ v ∈ ks.map κ) : v ∈ ks := by
  obtain ⟨u, hu, e⟩ := List.mem_map.mp h
  rw [<- n.inj u (hs u hu) v hv e]
  exact hu
theorem Nd.val (n : Nd H κ vs) (hs : ∀ k ∈ ks, k ∈ vs) (hv : v ∈ ks) : valM (ks.map (row κ f)) (κ v) = some (f v) := by
  induction ks with
  | nil => exact nomatch hv
  | cons k ks ih =>
    rw [List.map_cons, valM_cons]
    show (if κ k = κ v then some (f k) else _) = _
    by_cases e : κ k = κ v
    · have e2 := n.inj k (hs k List.mem_cons_self) v (hs v hv) e
      subst e2
      rw [if_pos rfl]
    · rw [if_neg e]
      rcases List.mem_cons.mp hv with rfl | hv
      · exact absurd rfl e
      · exact ih (fun k hk => hs k (List.mem_cons_of_mem _ hk)) hv
theorem Nd.non (n : Nd H κ vs) (hs : ∀ k ∈ ks, k ∈ vs) (hv : v ∈ vs) (h : v ∉ ks) : valM (ks.map (row κ f)) (κ v) = none := valM_none (by rw [row_keys]; exact fun z => h (n.mem hv hs z))
theorem Nd.has (n : Nd H κ vs) (hs : ∀ k ∈ ks, k ∈ vs) (hv : v ∈ vs) : (valM (ks.map (row κ f)) (κ v)).isSome = decide (v ∈ ks) := by
  by_cases h : v ∈ ks
  · rw [n.val hs h, decide_eq_true h]; rfl
  · rw [n.non hs hv h, decide_eq_false h]; rfl
theorem row_congr (h : ∀ k ∈ ks, f k = g k) : ks.map (row κ f) = ks.map (row κ g) := List.map_congr_left fun k hk => by unfold row; rw [h k hk]
theorem Nd.new (n : Nd H κ vs) (hs : ∀ k ∈ ks, k ∈ vs) (hv : v ∈ vs) (h : v ∉ ks) : putM (ks.map (row κ f)) (κ v) v x = (ks ++ [v]).map (row κ (setF f v x)) := by
  unfold putM
  rw [n.non hs hv h, if_neg (by simp), List.map_append, row_congr (f := f) (g := setF f v x) fun k hk => (setF_ne (f := f) (x := x) (fun e : k = v => h (by rw [<- e]; exact hk))).symm]
  congr 1
  show [_] = [row κ (setF f v x) v]
  unfold row
  rw [setF_at]
theorem Nd.old (n : Nd H κ vs) (hs : ∀ k ∈ ks, k ∈ vs) (h : v ∈ ks) : putM (ks.map (row κ f)) (κ v) v x = ks.map (row κ (setF f v x)) := by
  unfold putM
  rw [n.val hs h, Option.isSome_some, if_pos rfl, List.map_map]
  refine List.map_congr_left fun k hk => ?_
  show (if κ k = κ v then (κ k, k, x) else row κ f k) = row κ (setF f v x) k
  by_cases e : κ k = κ v
  · have e2 := n.inj k (hs k hk) v (hs v h) e
    subst e2
    rw [if_pos rfl]
    unfold row
    rw [setF_at]
  · rw [if_neg e]
    unfold row
    rw [setF_ne fun z => e (by rw [z])]
theorem Nd.isd {K : PySem.W.Frag} (n : Nd H κ vs) (hv : v ∈ vs) : Isd K H (daN (κ v)) v := isd_N (n.key v hv)
theorem Nd.isds {K : PySem.W.Frag} (n : Nd H κ vs) : ∀ {us : List V}, (∀ u ∈ us, u ∈ vs) -> Isds K H (us.map fun u => daN (κ u)) us
  | [], _ => by show Isds K H [] []; unfold Isds; rfl
  | u :: us, h => by
    show Isds K H (daN (κ u) :: us.map fun u => daN (κ u)) (u :: us)
    unfold Isds
    exact ⟨_, _, rfl, n.isd (h u List.mem_cons_self), n.isds fun u hu => h u (List.mem_cons_of_mem _ hu)⟩
theorem dep_Ns : ∀ us : List V, depDs (us.map fun u => daN (κ u)) <= 2
  | [] => by show depDs [] <= 2; unfold depDs; omega
  | u :: us => by
    show depDs (daN (κ u) :: us.map fun u => daN (κ u)) <= 2
    unfold depDs
    have := dep_N (κ u)
    have := dep_Ns us
    omega
theorem Nd.any (n : Nd H κ vs) (hv : v ∈ vs) : ∀ {us : List V}, (∀ u ∈ us, u ∈ vs) -> ((us.map fun u => daN (κ u)).any fun e => eqD e (daN (κ v))) = decide (v ∈ us)
  | [], _ => by simp
  | u :: us, h => by
    rw [List.map_cons, List.any_cons, eqD_N, n.any hv fun u hu => h u (List.mem_cons_of_mem _ hu)]
    by_cases e : κ u = κ v
    · have e2 := n.inj u (h u List.mem_cons_self) v hv e
      subst e2
      simp
    · have : u ≠ v := fun z => e (by rw [z])
      rw [decide_eq_false e, Bool.false_or]
      simp [this.symm]
theorem Nd.eqs (n : Nd H κ vs) : ∀ {us ws : List V}, (∀ u ∈ us, u ∈ vs) -> (∀ u ∈ ws, u ∈ vs) -> eqDs (us.map fun u => daN (κ u)) (ws.map fun u => daN (κ u)) = decide (us = ws)
  | [], [], _, _ => by show eqDs [] [] = _; unfold eqDs; simp
  | [], w :: ws, _, _ => by show eqDs [] (_ :: _) = _; unfold eqDs; simp
  | u :: us, [], _, _ => by show eqDs (_ :: _) [] = _; unfold eqDs; simp
  | u :: us, w :: ws, h, g => by
    show eqDs (daN (κ u) :: us.map fun u => daN (κ u)) (daN (κ w) :: ws.map fun u => daN (κ u)) = _
    unfold eqDs
    rw [eqD_N, n.eqs (fun u hu => h u (List.mem_cons_of_mem _ hu)) fun u hu => g u (List.mem_cons_of_mem _ hu)]
    by_cases e : κ u = κ w
    · have e2 := n.inj u (h u List.mem_cons_self) w (g w List.mem_cons_self) e
      subst e2
      by_cases z : us = ws <;> simp [z]
    · have : u ≠ w := fun z => e (by rw [z])
      simp [e, this]
end
abbrev DV (P : Program) (w : World) (κ : V -> NK) (H : Hp) (d : Addr) (ks : List V) (f : V -> V) : Prop := DN P w H d (ks.map (row κ f))
structure Gr (P : Program) (w : World) (κ : V -> NK) (H : Hp) (g : Addr) (vs : List V) (l : V -> Addr) (E : V -> List V) : Prop where
  d : DV P w κ H g vs (fun v => .ref (l v))
  at_ : ∀ v ∈ vs, H (l v) = some (.lst (E v))
  sub : ∀ v ∈ vs, ∀ u ∈ E v, u ∈ vs
  len : ∀ v ∈ vs, (E v).length <= 300
section
variable {P : Program} {w : World} {κ : V -> NK} {H H' : Hp} {g d : Addr} {vs ks : List V} {l : V -> Addr} {E : V -> List V} {f : V -> V}
theorem Gr.same (h : Gr P w κ H g vs l E) (s : Same H H') : Gr P w κ H' g vs l E := ⟨h.d.same s, fun v hv => s _ _ (h.at_ v hv), h.sub, h.len⟩
theorem DN.nodupV (h : DN P w H d (ks.map (row κ f))) : ks.Nodup := by
  have := h.nodup
  rw [row_keys] at this
  exact List.Pairwise.of_map κ (fun a b h e => h (congrArg κ e)) this
theorem DN.pin {xs : List (NK × V × V)} (h : DN P w H d xs) : ∃ o, H d = some (pinO d o) := let ⟨⟨o, e, _⟩, _⟩ := h; ⟨o, e⟩
theorem DN.lset {xs : List (NK × V × V)} {L : Addr} {ys : List V} {o : HO} (h : DN P w H d xs) (hL : H L = some (.lst ys)) : DN P w (upd H L o) d xs := by
  obtain ⟨o1, e1⟩ := h.pin
  refine h.to (fun b zs e => ?_) ?_
  · rw [upd_ne (ne_of e hL (fun z => nomatch z))]; exact e
  · rw [upd_ne (ne_of e1 hL (fun z => nomatch z))]
theorem pin_keep {o1 o' : Obj} {L : Addr} {ho : HO} (hd : H d = some (pinO d o1)) (hL : H L = some ho) (n : ∀ o, ho = pinO d o -> False) : upd H d (pinO d o') L = some ho := by
  rw [upd_ne (fun z => by subst z; rw [hd] at hL; exact n _ (Option.some.inj hL).symm)]; exact hL
theorem iteD {p : Prop} [Decidable p] {A B : Prop} (h1 : p -> A) (h2 : ¬ p -> B) : if decide p = true then A else B := by
  by_cases h : p
  · rw [decide_eq_true h, if_pos rfl]; exact h1 h
  · rw [decide_eq_false h, if_neg (by decide)]; exact h2 h
theorem iteND {p : Prop} [Decidable p] {A B : Prop} (h1 : ¬ p -> A) (h2 : p -> B) : if (!decide p) = true then A else B := by
  by_cases h : p
  · rw [decide_eq_true h, if_neg (by decide)]; exact h2 h
  · rw [decide_eq_false h, if_pos (by decide)]; exact h1 h
theorem Room.un80 {k : Nat} {A : Around} (r : Room k A) : A.units + 80 < cLine := by have := r.un; omega
end
end L2
namespace L2
open PySem PySem.W PyProof.Rows
def Pm (n : Nat) (p : Array Nat) : Prop := p.Perm (List.toArray (List.range n))
theorem Pm.size {n : Nat} {p : Array Nat} (h : Pm n p) : p.size = n := by have := h.size_eq; simpa using this
theorem Pm.lt {n : Nat} {p : Array Nat} (h : Pm n p) {i : Nat} (hi : i < n) : p.getD i 0 < n := by
  have hs : i < p.size := by rw [h.size]; exact hi
  have e : p.getD i 0 = p[i] := by simp [Array.getD, hs]
  rw [e]
  have : p[i] ∈ (List.toArray (List.range n)).toList := (Array.perm_iff_toList_perm.mp h).mem_iff.mp (by simp)
  simpa using this
theorem Pm.rev {n : Nat} {p : Array Nat} (h : Pm n p) (i j : Nat) : Pm n (kas_rev p i j) := (mirror_perm p i j _).trans h
theorem Pm.bub {n : Nat} {p : Array Nat} (h : Pm n p) (k d : Nat) : Pm n (bubble p k d) := (bubble_perm p k d).trans h
theorem getD_of {p q : Array Nat} {i j : Nat} (h : p[i]? = q[j]?) : p.getD i 0 = q.getD j 0 := by
  rw [Array.getD_eq_getD_getElem?, Array.getD_eq_getD_getElem?, h]
theorem rev_at {p : Array Nat} {i j : Nat} (hj : j <= p.size) (k : Nat) : (kas_rev p i j).getD k 0 = if i <= k /\ k < j then p.getD (i + j - 1 - k) 0 else p.getD k 0 := by
  have := getElem?_mirror_all (i := i) hj k
  by_cases h : i <= k /\ k < j
  · rw [if_pos h] at this ⊢; exact getD_of this
  · rw [if_neg h] at this ⊢; exact getD_of this
theorem bub_at {p : Array Nat} {k d : Nat} (hs : k < p.size) (hd : d <= k) (x : Nat) : (bubble p k d).getD x 0 = if x = k - d then p.getD k 0 else if k - d < x /\ x <= k then p.getD (x - 1) 0 else p.getD x 0 := by
  have := getElem?_bubble hs d hd x
  by_cases h : x = k - d
  · rw [if_pos h] at this ⊢; exact getD_of this
  · rw [if_neg h] at this ⊢
    by_cases h2 : k - d < x /\ x <= k
    · rw [if_pos h2] at this ⊢; exact getD_of this
    · rw [if_neg h2] at this ⊢; exact getD_of this
def Up (f : Nat -> Int) (p : Array Nat) (m : Nat) : Prop := ∀ i j, i <= j -> j < m -> f (p.getD i 0) <= f (p.getD j 0)
def Dn (f : Nat -> Int) (p : Array Nat) (m : Nat) : Prop := ∀ i j, i <= j -> j < m -> f (p.getD j 0) <= f (p.getD i 0)
section
variable {n : Nat} {f : Nat -> Int} {cmp : Nat -> Nat -> (Bool -> Shared -> Prop) -> Shared -> Prop} {s : Shared}
def Asks (n : Nat) (f : Nat -> Int) (cmp : Nat -> Nat -> (Bool -> Shared -> Prop) -> Shared -> Prop) (s : Shared) : Prop := ∀ i j (C : Bool -> Shared -> Prop), i < n -> j < n -> C (decide (f i < f j)) s -> cmp i j C s
theorem Asks.at {α : Type} (hc : Asks n f cmp s) {i j : Nat} {k : Bool -> KasT α} {Q : α -> Shared -> Prop} (hi : i < n) (hj : j < n) (h1 : f i < f j -> (k true).kasWp cmp Q s) (h2 : ¬ f i < f j -> (k false).kasWp cmp Q s) : (KasT.ask i j k).kasWp cmp Q s := by
  refine hc i j _ hi hj ?_
  by_cases h : f i < f j
  · rw [decide_eq_true h]; exact h1 h
  · rw [decide_eq_false h]; exact h2 h
theorem asc_wp (hc : Asks n f cmp s) {p : Array Nat} (P : Pm n p) {G : Nat -> Shared -> Prop} : ∀ (g a : Nat), 1 <= a -> a + g <= n -> Up f p a -> (∀ m, a <= m -> m <= a + g -> Up f p m -> (m = a + g \/ f (p.getD m 0) < f (p.getD (m - 1) 0)) -> G m s) -> (kas_asc p g a).kasWp cmp G s
  | 0, a, h1, hn, u, h => h a (Nat.le_refl _) (by omega) u (.inl rfl)
  | g + 1, a, h1, hn, u, h => by
    unfold kas_asc
    refine hc.at (P.lt (by omega)) (P.lt (by omega)) (fun hl => ?_) (fun hl => ?_)
    · rw [if_pos rfl]
      exact h a (Nat.le_refl _) (by omega) u (.inr hl)
    · rw [if_neg (by simp)]
      refine asc_wp hc P g (a + 1) (by omega) (by omega) (fun i j hij hj => ?_) fun m m1 m2 um hor => h m (by omega) (by omega) um (by rcases hor with e | e; exact .inl (by omega); exact .inr e)
      by_cases hja : j < a
      · exact u i j hij hja
      · have : j = a := by omega
        subst this
        by_cases hi : i = j
        · subst hi; exact Int.le_refl _
        · have := u i (j - 1) (by omega) (by omega)
          omega
theorem tail_wp (hc : Asks n f cmp s) {p : Array Nat} (P : Pm n p) {G : Nat × Array Nat -> Shared -> Prop} {m : Nat} (h1 : 1 <= m) (hm : m <= n) (d : Dn f p m) (h : ∀ m' q, Pm n q -> 1 <= m' -> m' <= n -> Up f q m' -> G (m', q) s) : (kas_tail3 m n p).kasWp cmp G s := by
  unfold kas_tail3
  rw [KasT.kasWp_bind]
  refine asc_wp hc (P.rev 0 m) (n - m) m h1 (by omega) (fun i j hij hj => ?_) fun m' m1 m2 u _ => h m' _ (P.rev 0 m) (by omega) (by omega) u
  have hs : m <= p.size := by rw [P.size]; exact hm
  rw [rev_at hs, rev_at hs, if_pos (by omega), if_pos (by omega)]
  exact d _ _ (by omega) (by omega)
theorem eq_rev {p : Array Nat} {a b : Nat} (hs : b <= p.size) (e : ∀ i, a <= i -> i < b -> f (p.getD i 0) = f (p.getD (b - 1) 0)) (k : Nat) : f ((kas_rev p a b).getD k 0) = f (p.getD k 0) := by
  rw [rev_at hs]
  by_cases h : a <= k /\ k < b
  · rw [if_pos h, e _ (by omega) (by omega), e k h.1 h.2]
  · rw [if_neg h]
theorem desc_wp (hc : Asks n f cmp s) {G : Array Nat × Nat × Nat -> Shared -> Prop} : ∀ (g : Nat) (p : Array Nat) (x q : Nat), Pm n p -> 1 <= x -> x + g <= n -> Dn f p x -> q + 1 <= x -> (∀ i, x - (q + 1) <= i -> i < x -> f (p.getD i 0) = f (p.getD (x - 1) 0)) ->
    (∀ p' m q', Pm n p' -> 1 <= m -> m <= n -> Dn f p' m -> q' + 1 <= m -> (∀ i, m - (q' + 1) <= i -> i < m -> f (p'.getD i 0) = f (p'.getD (m - 1) 0)) -> G (p', m, q') s) -> (kas_desc g p x q).kasWp cmp G s
  | 0, p, x, q, P, h1, hn, d, hq, e, h => h p x q P h1 (by omega) d hq e
  | g + 1, p, x, q, P, h1, hn, d, hq, e, h => by
    unfold kas_desc
    have hs : x <= p.size := by rw [P.size]; omega
    refine hc.at (P.lt (by omega)) (P.lt (by omega)) (fun hl => ?_) (fun hl => ?_)
    · rw [if_pos rfl]
      have step : ∀ p' : Array Nat, (∀ k, f (p'.getD k 0) = f (p.getD k 0)) -> Dn f p' (x + 1) := fun p' hk i j hij hj => by
        rw [hk, hk]
        by_cases hjx : j < x
        · exact d i j hij hjx
        · have : j = x := by omega
          subst this
          by_cases hi : i = j
          · subst hi; exact Int.le_refl _
          · have := d i (j - 1) (by omega) (by omega)
            omega
      by_cases h0 : q > 0
      · rw [if_pos h0]
        exact desc_wp hc g _ (x + 1) 0 (P.rev _ _) (by omega) (by omega) (step _ (eq_rev hs e)) (by omega) (fun i h1 h2 => by congr 2; omega) h
      · rw [if_neg h0]
        exact desc_wp hc g p (x + 1) 0 P (by omega) (by omega) (step _ fun _ => rfl) (by omega) (fun i h1 h2 => by congr 2; omega) h
    · rw [if_neg (by simp)]
      refine hc.at (P.lt (by omega)) (P.lt (by omega)) (fun hg => ?_) (fun hg => ?_)
      · rw [if_pos rfl]
        exact h p x q P h1 (by omega) d hq e
      · rw [if_neg (by simp)]
        have ex : f (p.getD x 0) = f (p.getD (x - 1) 0) := by omega
        refine desc_wp hc g p (x + 1) (q + 1) P (by omega) (by omega) (fun i j hij hj => ?_) (by omega) (fun i h1 h2 => ?_) h
        · by_cases hjx : j < x
          · exact d i j hij hjx
          · have : j = x := by omega
            subst this
            by_cases hi : i = j
            · subst hi; exact Int.le_refl _
            · have := d i (j - 1) (by omega) (by omega)
              omega
        · rw [show x + 1 - 1 = x by omega]
          by_cases hix : i = x
          · subst hix; rfl
          · rw [ex]; exact e i (by omega) (by omega)
theorem part_wp (hc : Asks n f cmp s) {p : Array Nat} (P : Pm n p) {G : Nat × Array Nat -> Shared -> Prop} {m : Nat} (hm : m + 1 <= n) (d : Dn f p (m + 1)) (h : ∀ m' q, Pm n q -> 1 <= m' -> m' <= n -> Up f q m' -> G (m', q) s) : (kas_descPart m n p).kasWp cmp G s := by
  unfold kas_descPart
  rw [KasT.kasWp_bind]
  refine desc_wp hc (n - (m + 1)) p (m + 1) 0 P (by omega) (by omega) d (by omega) (fun i h1 h2 => by congr 2; omega) fun p' x q' P' x1 xn d' hq e => ?_
  dsimp only
  have hs : x <= p'.size := by rw [P'.size]; exact xn
  by_cases h0 : q' > 0
  · rw [if_pos h0]
    refine tail_wp hc (P'.rev _ _) x1 xn (fun i j hij hj => ?_) h
    rw [eq_rev hs e, eq_rev hs e]
    exact d' i j hij hj
  · rw [if_neg h0]
    exact tail_wp hc P' x1 xn d' h
theorem count_wp (hc : Asks n f cmp s) {p : Array Nat} (P : Pm n p) {G : Nat × Array Nat -> Shared -> Prop} (h1 : 1 <= n) (h : ∀ m' q, Pm n q -> 1 <= m' -> m' <= n -> Up f q m' -> G (m', q) s) : (kas_count n p).kasWp cmp G s := by
  unfold kas_count
  rw [KasT.kasWp_bind]
  refine asc_wp hc P (n - 1) 1 (Nat.le_refl _) (by omega) (fun i j hij hj => by rw [show i = j by omega]; exact Int.le_refl _) fun m m1 m2 u hor => ?_
  by_cases hmn : m = n
  · rw [if_pos (by simpa using hmn)]
    exact h m p P m1 (by omega) u
  · rw [if_neg (by simpa using hmn)]
    have hlt : f (p.getD m 0) < f (p.getD (m - 1) 0) := hor.resolve_left (by omega)
    have hs : m <= p.size := by rw [P.size]; omega
    by_cases hg : m > 1
    · rw [if_pos hg]
      refine hc.at (P.lt (by omega)) (P.lt (by omega)) (fun hl => ?_) (fun hl => ?_)
      · rw [if_pos rfl]
        exact h m p P m1 (by omega) u
      · rw [if_neg (by simp)]
        have hall : ∀ k, 0 <= k -> k < m -> f (p.getD k 0) = f (p.getD (m - 1) 0) := fun k _ hk => by
          have a1 := u 0 k (by omega) hk
          have a2 := u k (m - 1) (by omega) (by omega)
          omega
        refine part_wp hc (P.rev _ _) (by omega) (fun i j hij hj => ?_) h
        rw [eq_rev hs hall, eq_rev hs hall]
        by_cases hjm : j < m
        · rw [hall i (by omega) (by omega), hall j (by omega) hjm]; exact Int.le_refl _
        · have : j = m := by omega
          subst this
          by_cases hi : i = j
          · subst hi; exact Int.le_refl _
          · rw [hall i (by omega) (by omega)]; omega
    · rw [if_neg hg]
      have : m = 1 := by omega
      subst this
      refine part_wp hc P (by omega) (fun i j hij hj => ?_) h
      by_cases hi : i = j
      · subst hi; exact Int.le_refl _
      · have hi0 : i = 0 := by omega
        have hj1 : j = 1 := by omega
        subst hi0 hj1
        have : f (p.getD 1 0) < f (p.getD 0 0) := hlt
        omega
theorem place_wp (hc : Asks n f cmp s) {p : Array Nat} (P : Pm n p) {k : Nat} (hk : k < n) (u : Up f p k) {G : Nat -> Shared -> Prop} : ∀ (g l r : Nat), l <= r -> r <= k -> r - l <= g -> (∀ i, i < l -> f (p.getD i 0) <= f (p.getD k 0)) -> (∀ i, r <= i -> i < k -> f (p.getD k 0) < f (p.getD i 0)) ->
    (∀ l, l <= k -> (∀ i, i < l -> f (p.getD i 0) <= f (p.getD k 0)) -> (∀ i, l <= i -> i < k -> f (p.getD k 0) < f (p.getD i 0)) -> G l s) -> (kas_place p k g l r).kasWp cmp G s
  | 0, l, r, hlr, hr, hg, lo, hi, h => h l (by omega) lo (fun i h1 h2 => hi i (by omega) h2)
  | g + 1, l, r, hlr, hr, hg, lo, hi, h => by
    unfold kas_place
    by_cases hge : l >= r
    · rw [if_pos hge]
      exact h l (by omega) lo (fun i h1 h2 => hi i (by omega) h2)
    · rw [if_neg hge]
      refine hc.at (P.lt (by omega)) (P.lt (by omega)) (fun hl => ?_) (fun hl => ?_)
      · rw [if_pos rfl]
        refine place_wp hc P hk u g l ((l + r) / 2) (by omega) (by omega) (by omega) lo (fun i h1 h2 => ?_) h
        have := u ((l + r) / 2) i h1 h2
        omega
      · rw [if_neg (by simp)]
        refine place_wp hc P hk u g ((l + r) / 2 + 1) r (by omega) (by omega) (by omega) (fun i h1 => ?_) hi h
        have := u i ((l + r) / 2) (by omega) (by omega)
        omega
theorem bin_wp (hc : Asks n f cmp s) {G : Array Nat -> Shared -> Prop} (h : ∀ q, Pm n q -> Up f q n -> G q s) : ∀ (g : Nat) (p : Array Nat) (k : Nat), Pm n p -> k + g = n -> Up f p k -> (kas_bin g p k).kasWp cmp G s
  | 0, p, k, P, hk, u => h p P (by rw [show n = k by omega]; exact u)
  | g + 1, p, k, P, hk, u => by
    unfold kas_bin
    rw [KasT.kasWp_bind]
    refine place_wp hc P (by omega) u k 0 k (by omega) (Nat.le_refl _) (by omega) (fun i hi => by omega) (fun i h1 h2 => by omega) fun l hl lo hi => ?_
    refine bin_wp hc h g _ (k + 1) (P.bub _ _) (by omega) (fun i j hij hj => ?_)
    have hks : k < p.size := by rw [P.size]; omega
    rw [bub_at hks (by omega), bub_at hks (by omega), show k - (k - l) = l by omega]
    have ci : i < l \/ i = l \/ (l < i /\ i <= k) := by omega
    have cj : j < l \/ j = l \/ (l < j /\ j <= k) := by omega
    have ei : ∀ x, x < l -> (if x = l then p.getD k 0 else if l < x /\ x <= k then p.getD (x - 1) 0 else p.getD x 0) = p.getD x 0 := fun x hx => by rw [if_neg (by omega), if_neg (by omega)]
    have eh : ∀ x, l < x /\ x <= k -> (if x = l then p.getD k 0 else if l < x /\ x <= k then p.getD (x - 1) 0 else p.getD x 0) = p.getD (x - 1) 0 := fun x hx => by rw [if_neg (by omega), if_pos hx]
    rcases ci with ci | ci | ci
    · rw [ei i ci]
      rcases cj with cj | cj | cj
      · rw [ei j cj]; exact u _ _ hij (by omega)
      · rw [if_pos cj]; exact lo i ci
      · rw [eh j cj]; exact u _ _ (by omega) (by omega)
    · rw [if_pos ci]
      rcases cj with cj | cj | cj
      · omega
      · rw [if_pos cj]; exact Int.le_refl _
      · rw [eh j cj]; exact Int.le_of_lt (hi _ (by omega) (by omega))
    · rw [eh i ci]
      rcases cj with cj | cj | cj
      · omega
      · omega
      · rw [eh j cj]; exact u _ _ (by omega) (by omega)
theorem sort_wp (hc : Asks n f cmp s) {G : Array Nat -> Shared -> Prop} (h1 : 1 <= n) (h : ∀ q, Pm n q -> Up f q n -> G q s) : (kas_sort n).kasWp cmp G s := by
  unfold kas_sort
  rw [KasT.kasWp_bind]
  refine count_wp hc (Array.Perm.refl _) h1 fun m q P m1 mn u => ?_
  dsimp only
  by_cases hlt : m < n
  · rw [if_pos hlt]
    refine bin_wp hc h _ q _ P (by omega) ?_
    rw [show max m 1 = m by omega]
    exact u
  · rw [if_neg hlt]
    exact h q P (by rw [show n = m by omega]; exact u)
end
end L2
namespace L2
open PySem PySem.W PySem.Spec PyProof.Rows
structure SO {α : Type} (lt : α -> α -> Bool) : Prop where
  irr : ∀ a, lt a a = false
  as : ∀ a b, lt a b = true -> lt b a = false
  tr : ∀ x b a, lt x b = true -> lt a b = false -> lt x a = true
  an : ∀ a b, lt a b = false -> lt b a = false -> a = b
def rk {α : Type} (lt : α -> α -> Bool) (es : List α) (e : α) : Int := ((es.countP fun x => lt x e : Nat) : Int)
theorem countP_less {α : Type} {p q : α -> Bool} (h : ∀ x, p x = true -> q x = true) : ∀ {l : List α}, (∃ x ∈ l, q x = true /\ p x = false) -> l.countP p < l.countP q
  | [], ⟨_, m, _⟩ => nomatch m
  | y :: l, ⟨x, m, h1, h2⟩ => by
    have mono : l.countP p <= l.countP q := List.countP_mono_left fun x _ hx => h x hx
    rw [List.countP_cons, List.countP_cons]
    rcases List.mem_cons.mp m with rfl | m
    · rw [h1, h2]; simp; omega
    · have ih := countP_less h (l := l) ⟨x, m, h1, h2⟩
      by_cases hp : p y = true
      · rw [hp, h y hp]; simp; omega
      · rw [Bool.not_eq_true] at hp
        rw [hp]
        simp
        omega
theorem rk_lt {α : Type} {lt : α -> α -> Bool} (o : SO lt) {es : List α} {a b : α} (ha : a ∈ es) : decide (rk lt es a < rk lt es b) = lt a b := by
  cases h : lt a b with
  | false =>
    have : (es.countP fun x => lt x b) <= es.countP fun x => lt x a := List.countP_mono_left fun x _ hx => o.tr x b a hx h
    exact decide_eq_false (by unfold rk; omega)
  | true =>
    have : (es.countP fun x => lt x a) < es.countP fun x => lt x b := countP_less (fun x hx => o.tr x a b hx (o.as a b h)) ⟨a, ha, h, o.irr a⟩
    exact decide_eq_true (by unfold rk; omega)
theorem range_getD {α : Type} (es : List α) (d : α) : (List.range es.length).map (fun i => es.getD i d) = es := by
  refine List.ext_getElem (by simp) fun i h1 h2 => ?_
  simp [h2]
theorem sorted_of {α : Type} {lt : α -> α -> Bool} (o : SO lt) {es : List α} {d : α} {p : Array Nat} (P : Pm es.length p) (u : Up (fun i => rk lt es (es.getD i d)) p es.length) :
    (p.toList.map fun i => es.getD i d).Perm es /\ (p.toList.map fun i => es.getD i d).Pairwise (fun a b => lt b a = false) := by
  have hp : p.toList.Perm (List.range es.length) := by simpa using Array.perm_iff_toList_perm.mp P
  have hl : p.toList.length = es.length := by rw [hp.length_eq, List.length_range]
  refine ⟨by have := hp.map (fun i => es.getD i d); rwa [range_getD] at this, List.pairwise_iff_getElem.mpr fun i j hi hj hij => ?_⟩
  rw [List.length_map] at hi hj
  rw [List.getElem_map, List.getElem_map]
  have e : ∀ (k : Nat) (hk : k < p.toList.length), p.toList[k] = p.getD k 0 := fun k hk => by
    have hk' : k < p.size := by simpa using hk
    simp [Array.getD, hk']
  have h := u i j (Nat.le_of_lt hij) (by omega)
  have hm : es.getD (p.getD j 0) d ∈ es := by
    have := P.lt (i := j) (by omega)
    rw [List.getD_eq_getElem?_getD, List.getElem?_eq_getElem this]
    exact List.getElem_mem _
  rw [e i hi, e j hj, <- rk_lt o (b := es.getD (p.getD i 0) d) hm]
  exact decide_eq_false (by dsimp only at h; omega)
section
variable {P : Program} {w : World} {A : Around} {E : Value -> Shared -> Prop} {s : Shared}
theorem list_sort_by {a : Addr} {vs : List Value} {n : Nat} {κ : SortKind} {f : Nat -> Int} {R : PySem.Fin -> Shared -> Prop} (ho : s.heap.get? a = some (seqObj "list" vs.toArray n)) (h64 : vs.length < 64)
    (hk : 2 <= vs.length -> ∀ h', (∀ b o, b ≠ a -> s.heap.get? b = some o -> h'.get? b = some o) -> ∀ (Q : SortKind -> Shared -> Prop) (E' : Value -> Shared -> Prop), Q κ { s with heap := h' } -> wpAny (model P w) A (keyKind' vs.toArray) Q E' { s with heap := h' })
    (hc : ∀ h', (∀ b o, b ≠ a -> s.heap.get? b = some o -> h'.get? b = some o) -> Asks vs.length f (kas_ask P w A κ vs) { s with heap := h' })
    (h : ∀ p, Pm vs.length p -> Up f p vs.length -> R (.done (.ret .none)) { s with heap := sortedHeap s.heap a vs (List.toArray (p.toList.map fun i => vs.getD i Value.none)) }) :
    wpAny (model P w) A (Builtin.«list.sort» ⟨[.ref a], []⟩) R E s := by
  have ha : a < s.heap.objs.size := Heap.lt_size ho
  rw [list_sort_plain]
  refine wpAny_bind (listItems_at ho rfl (wpAny_bind (listUpdate_at ho rfl ?_ (by rw [List.size_toArray, sizeLine_eq]; omega) (Nat.zero_le _))))
  obtain ⟨e1, ho1⟩ : ∃ e1, (s.heap.update a (Obj.mapSeq fun _ => (#[] : Array Value))).get? a = some (seqObj "list" #[] e1) := ⟨_, get?_update_seq ho fun _ => #[]⟩
  refine wpAny_bind (seqEpoch_at ho1 rfl (wpAny_bind (wpAny_newTuple (wpAny_bind (wpAny_newList (wpAny_holding ?_) (Nat.zero_le _))) (by show vs.length <= _; rw [sizeLine_eq]; omega))))
  have kp : ∀ b o, b ≠ a -> s.heap.get? b = some o -> (((s.heap.update a (Obj.mapSeq fun _ => (#[] : Array Value))).push (seqObj "tuple" vs.toArray 0)).push (seqObj "list" #[] 0)).get? b = some o := fun b o nb e =>
    Heap.get?_push_of_some _ (Heap.get?_push_of_some _ ((Heap.get?_update_other _ _ (Ne.symm nb)).trans e))
  have ho6 : (((s.heap.update a (Obj.mapSeq fun _ => (#[] : Array Value))).push (seqObj "tuple" vs.toArray 0)).push (seqObj "list" #[] 0)).get? a = some (seqObj "list" #[] e1) := Heap.get?_push_of_some _ (Heap.get?_push_of_some _ ho1)
  show wpAny (model P w) A _ R E { s with heap := ((s.heap.update a (Obj.mapSeq fun _ => (#[] : Array Value))).push (seqObj "tuple" vs.toArray 0)).push (seqObj "list" #[] 0) }
  dsimp only
  by_cases h2 : vs.toArray.size < 2
  · rw [if_pos h2, if_pos h2]
    have h2' : vs.length < 2 := by simpa using h2
    refine wpAny_bind (wpAny_pure ?_)
    rw [StateT.run_pure]
    refine wpAny_bind (wpAny_pure ?_)
    dsimp only
    have e0 : (Array.map (·.2) (vs.toArray.zip vs.toArray)) = List.toArray ((List.toArray (List.range vs.length)).toList.map fun i => vs.getD i Value.none) := by
      rw [show (List.toArray (List.range vs.length)).toList = List.range vs.length from rfl, range_getD]
      apply Array.toList_inj.mp
      have z : ∀ l : List Value, List.map (fun x : Value × Value => x.snd) (l.zip l) = l := fun l => by
        induction l with
        | nil => rfl
        | cons x l ih => rw [List.zip_cons_cons, List.map_cons, ih]
      simp [z]
    refine wpAny_bind (seqEpoch_at ho6 rfl (wpAny_bind (listUpdate_at ho6 rfl ?_ (Nat.zero_le _) ?_)))
    · simp only [bne_self_eq_false, Bool.false_eq_true, if_false]
      have := h (List.toArray (List.range vs.length)) (Array.Perm.refl _) fun i j hij hj => by rw [show i = j by omega]; exact Int.le_refl _
      rw [<- e0] at this
      exact wpAny_pure this
    · show (Array.map (·.2) (vs.toArray.zip vs.toArray)).size <= _
      rw [Array.size_map, sizeLine_eq]
      simp
      omega
  · have h2' : 2 <= vs.length := by simpa using h2
    rw [if_neg h2, if_neg h2]
    refine wpAny_bind (hk h2' _ kp _ _ ?_)
    refine wpAny_bind (wpAny_mono (kat_run (Q := fun st' s' => ∃ p : Array Nat, p.size = vs.length /\ arrOf st' = p.map (kas_item (vs.toArray.zip vs.toArray)) /\ failedOf st' = none /\ Pm vs.length p /\ Up f p vs.length /\ s' = { s with heap := ((s.heap.update a (Obj.mapSeq fun _ => (#[] : Array Value))).push (seqObj "tuple" vs.toArray 0)).push (seqObj "list" #[] 0) })
      (G := fun p s' => Pm vs.length p /\ Up f p vs.length /\ s' = { s with heap := ((s.heap.update a (Obj.mapSeq fun _ => (#[] : Array Value))).push (seqObj "tuple" vs.toArray 0)).push (seqObj "list" #[] 0) }) rfl h2' h64 (fun p' st' s' a1 a2 a3 a4 => ⟨p', a1, a2, a3, a4⟩) (sort_wp (hc _ kp) (by omega) fun q a1 a2 => ⟨a1, a2, rfl⟩)) ?_ fun _ _ x => x)
    rintro ⟨⟨⟩, st'⟩ s' ⟨p, hp, har, hf, p1, p2, rfl⟩
    dsimp only
    have hout := kat_snds (ks := vs) (vs := vs) rfl har
    rw [hout]
    refine wpAny_bind (seqEpoch_at ho6 rfl (wpAny_bind (listUpdate_at ho6 rfl ?_ (Nat.zero_le _) ?_)))
    · rw [hf]
      simp only [bne_self_eq_false, Bool.false_eq_true, if_false]
      exact wpAny_pure (h p p1 p2)
    · show (List.toArray (p.toList.map fun i => vs.getD i Value.none)).size <= _
      rw [List.size_toArray, List.length_map, Array.length_toList, hp, sizeLine_eq]
      omega
theorem sorted_by {l : Addr} {vs : List Value} {κ : SortKind} {f : Nat -> Int} {Q : Value -> Shared -> Prop} (hl : s.heap.IsList l vs.toArray) (h64 : vs.length < 64)
    (hk : 2 <= vs.length -> ∀ (A' : Around) h', (∀ b o, s.heap.get? b = some o -> h'.get? b = some o) -> ∀ (Q : SortKind -> Shared -> Prop) (E' : Value -> Shared -> Prop), Q κ { s with heap := h' } -> wpAny (model P w) A' (keyKind' vs.toArray) Q E' { s with heap := h' })
    (hc : ∀ (A' : Around) h', (∀ b o, s.heap.get? b = some o -> h'.get? b = some o) -> Asks vs.length f (kas_ask P w A' κ vs) { s with heap := h' })
    (h : ∀ p, Pm vs.length p -> Up f p vs.length -> Q (.ref (s.heap.objs.size + 1)) { s with heap := sortedAll s.heap vs (List.toArray (p.toList.map fun i => vs.getD i Value.none)) }) :
    wpAny (model P w) A (call (.builtin "sorted") [.ref l]) Q E s := by
  refine Calls.call_function_entry kind_sorted plain_sorted entry_sorted (args_sorted1 _) ?_
  unfold Builtin.«sorted»
  refine wpAny_bind (m := checkCount "sorted" 1 1 _) (wpAny_pure (wpAny_bind (collect_list hl (wpAny_bind (wpAny_newList ?_ (by rw [sizeLine_eq]; omega))) (by rw [sizeLine_eq]; omega))))
  have hsz : ((s.heap.push (seqObj "list" #[] 0)).update s.heap.objs.size (Obj.mapSeq (· ++ vs.toArray))).objs.size = s.heap.objs.size + 1 := (Heap.size_update ..).trans (size_push' ..)
  have hoL : (((s.heap.push (seqObj "list" #[] 0)).update s.heap.objs.size (Obj.mapSeq (· ++ vs.toArray))).push (seqObj "list" vs.toArray 0)).get? (s.heap.objs.size + 1) = some (seqObj "list" vs.toArray 0) := hsz ▸ Heap.get?_push_size _ rfl
  have keep : ∀ b o, s.heap.get? b = some o -> (((s.heap.push (seqObj "list" #[] 0)).update s.heap.objs.size (Obj.mapSeq (· ++ vs.toArray))).push (seqObj "list" vs.toArray 0)).get? b = some o := fun b o q =>
    Heap.get?_push_of_some _ ((Heap.get?_update_other _ _ (Ne.symm (Nat.ne_of_lt (Heap.lt_size q)))).trans (Heap.get?_push_of_some _ q))
  show wpAny _ _ _ _ _ { s with heap := ((s.heap.push (seqObj "list" #[] 0)).update s.heap.objs.size (Obj.mapSeq (· ++ vs.toArray))).push (seqObj "list" vs.toArray 0) }
  rw [hsz]
  have nb : ∀ b o, s.heap.get? b = some o -> b ≠ s.heap.objs.size + 1 := fun b o q => Nat.ne_of_lt (Nat.lt_succ_of_lt (Heap.lt_size q))
  refine wpAny_bind (wpAny_holding (wpAny_call_entry slot_list_sort ⟨_, hoL, rfl⟩ entry_list_sort (list_sort_by (κ := κ) (f := f) hoL h64 (fun h2 h' kp => hk h2 _ h' fun b o q => kp b o (nb b o q) (keep b o q)) (fun h' kp => hc _ h' fun b o q => kp b o (nb b o q) (keep b o q)) fun p p1 p2 => ⟨_, rfl, wpAny_pure ⟨_, rfl, h p p1 p2⟩⟩) (args_list_sort _)))
end
section
variable {P : Program} {w : World} {A : Around} {E : Value -> Shared -> Prop} {s : Shared}
end
section
variable {X : Cx}
end
end L2
namespace L2
open PySem PySem.W PySem.Spec PyProof.Rows
def ltI (a b : Int × Int) : Bool := if a.1 = b.1 then decide (a.2 < b.2) else decide (a.1 < b.1)
theorem ltI_t (a b : Int × Int) : ltI a b = true ↔ a.1 < b.1 \/ (a.1 = b.1 /\ a.2 < b.2) := by
  unfold ltI
  split <;> rw [decide_eq_true_iff] <;> omega
theorem ltI_f (a b : Int × Int) : ltI a b = false ↔ ¬ (a.1 < b.1 \/ (a.1 = b.1 /\ a.2 < b.2)) := by
  rw [<- ltI_t, Bool.not_eq_true]
theorem so_I : SO ltI where
  irr a := (ltI_f a a).mpr (by omega)
  as a b h := (ltI_f b a).mpr (by have := (ltI_t a b).mp h; omega)
  tr x b a h1 h2 := (ltI_t x a).mpr (by have := (ltI_t x b).mp h1; have := (ltI_f a b).mp h2; omega)
  an a b h1 h2 := by
    have h1 := (ltI_f a b).mp h1
    have h2 := (ltI_f b a).mp h2
    exact Prod.ext (by omega) (by omega)
def IsI (H : Hp) (e : Int × Int) (v : V) : Prop := ∃ a, v = .ref a /\ H a = some (.tup [.int e.1, .int e.2])
def TupI (h : Heap) (e : Int × Int) (v : Value) : Prop := ∃ a o t u n, v = .ref a /\ h.get? a = some o /\ o.cls = .type "tuple" /\ o.data = .seq #[.int e.1 t, .int e.2 u] n
section
variable {P : Program} {w : World} {A : Around} {E : Value -> Shared -> Prop} {s : Shared}
theorem ask_I {e1 e2 : Int × Int} {x y : Value} {C : Bool -> Shared -> Prop} (hx : TupI s.heap e1 x) (hy : TupI s.heap e2 y) (h : C (ltI e1 e2) s) : wpAny (model P w) A (keyLt' (tuples' true) x y) C E s := by
  obtain ⟨a, o, t, u, n, rfl, ha, _, da⟩ := hx
  obtain ⟨b, o', t', u', n', rfl, hb, _, db⟩ := hy
  refine kat_lt ha da hb db (kat_cons (wpAny_eqBool_int (kat_go (fun q => kat_yes (kat_cons (wpAny_eqBool_int (kat_go (fun q2 => kat_yes (kat_nil ?_)) (fun q2 => kat_no (kat_one _ _ (PyProof.Rows.lt_int ?_))))))) (fun q => kat_no (oneLt_int ?_)))))
  · have q : e1.1 = e2.1 := by simpa using q
    have q2 : e1.2 = e2.2 := by simpa using q2
    have : ltI e1 e2 = false := by unfold ltI; rw [if_pos q, q2]; exact decide_eq_false (Int.lt_irrefl _)
    rw [this] at h
    exact h
  · have q : e1.1 = e2.1 := by simpa using q
    have : ltI e1 e2 = decide (e1.2 < e2.2) := by unfold ltI; rw [if_pos q]
    rw [this] at h
    exact h
  · have q : e1.1 ≠ e2.1 := by simpa using q
    have : ltI e1 e2 = decide (e1.1 < e2.1) := by unfold ltI; rw [if_neg q]
    rw [this] at h
    exact h
theorem tups_I : ∀ {es : List (Int × Int)} {vs : List Value}, es.length = vs.length -> (∀ (i : Nat) e v, es[i]? = some e -> vs[i]? = some v -> TupI s.heap e v) -> ∃ fs, KatTups s.heap vs fs /\ fs.length = vs.length /\ ∀ v ∈ fs, ∃ i t, v = Value.int i t
  | [], [], _, _ => ⟨[], .nil, rfl, fun v h => nomatch h⟩
  | [], _ :: _, h, _ => by simp at h
  | _ :: _, [], h, _ => by simp at h
  | e :: es, v :: vs, hl, h => by
    obtain ⟨fs, a1, a2, a3⟩ := tups_I (es := es) (vs := vs) (by simpa using hl) fun i e v h1 h2 => h (i + 1) e v (by simpa using h1) (by simpa using h2)
    obtain ⟨a, o, t, u, n, rfl, ha, hc, hd⟩ := h 0 e v rfl rfl
    refine ⟨.int e.1 t :: fs, .cons ha hc hd rfl a1, by simp [a2], fun x hx => ?_⟩
    rcases List.mem_cons.mp hx with rfl | hx
    · exact ⟨_, _, rfl⟩
    · exact a3 x hx
theorem kind_I {es : List (Int × Int)} {vs : List Value} {Q : SortKind -> Shared -> Prop} (hl : es.length = vs.length) (h2 : 2 <= vs.length) (h : ∀ (i : Nat) e v, es[i]? = some e -> vs[i]? = some v -> TupI s.heap e v) (q : Q (tuples' true) s) : wpAny (model P w) A (keyKind' vs.toArray) Q E s := by
  obtain ⟨fs, a1, a2, a3⟩ := tups_I hl h
  refine kat_kind (T := .type "int") a1 (by omega) (fun v hv => ?_) (by decide) q
  obtain ⟨i, t, rfl⟩ := a3 v hv
  exact .now
end
section
variable {X : Cx}
theorem l2r_ofI {R : Int × Int -> V -> Prop} {es : List (Int × Int)} {us : List V} (h : TM.L2R R es us) (p : List Nat) (d : Int × Int) (v : V) (hp : ∀ i ∈ p, i < es.length) : TM.L2R R (p.map fun i => es.getD i d) (p.map fun i => us.getD i v) := by
  induction p with
  | nil => exact .nil
  | cons i p ih =>
    have hi := hp i (by simp)
    have hl := h.len
    obtain ⟨e, he⟩ := some_of_lt (xs := us) (i := i) (by omega)
    obtain ⟨x, hx, r⟩ := h.get he
    refine .cons ?_ (ih fun j hj => hp j (by simp [hj]))
    dsimp only
    rw [List.getD_eq_getElem?_getD, List.getD_eq_getElem?_getD, hx, he]
    exact r
theorem call_sortI : CallR X (.builtin "sorted") (fun xs H Q => ∃ (l : Addr) (es : List (Int × Int)) (us : List V), xs = [.ref l] /\ SqL X.K H l us /\ TM.L2R (IsI H) es us /\ us.length < 64 /\ ∀ D es' us', H D = none -> es'.Perm es -> es'.Pairwise (fun a b => ltI b a = false) -> TM.L2R (IsI H) es' us' -> us'.length = us.length -> Q (.ref D) (upd H D (.lst us'))) := by
  intro pins s σ H xs us Q I r h
  obtain ⟨l, es, vs, rfl, hq, hes, h64, q⟩ := h
  obtain ⟨u, rfl, ru⟩ := vals1 r
  cases ru
  obtain ⟨its, rv, pl, hz⟩ := I.list hq
  have hlen := rv.length
  have hle := hes.len
  have tv : ∀ (i : Nat) e v, es[i]? = some e -> its[i]? = some v -> TupI s.heap e v := fun i e v he hv => by
    obtain ⟨x, hx⟩ := some_of_lt (xs := vs) (i := i) (by have := lt_of_some hv; omega)
    obtain ⟨e', he', a, rfl, ha⟩ := hes.get hx
    rw [he] at he'
    cases he'
    obtain ⟨v', hv', rv'⟩ := rv.get hx
    rw [hv] at hv'
    cases hv'
    cases rv'
    obtain ⟨its2, rv2, pl2, _⟩ := I.tuple (SqT.of ha)
    obtain ⟨o, ho, hc, n, hd⟩ := pl2
    obtain ⟨u1, u2, rfl, ⟨t1, rfl⟩, ⟨t2, rfl⟩⟩ := vals2 rv2
    exact ⟨a, o, t1, t2, n, rfl, ho, hc, hd⟩
  have keepT : ∀ {h' : Heap}, (∀ b o, s.heap.get? b = some o -> h'.get? b = some o) -> ∀ (i : Nat) e v, es[i]? = some e -> its[i]? = some v -> TupI h' e v := fun kp i e v he hv => by
    obtain ⟨a, o, t, u, n, e1, e2, e3, e4⟩ := tv i e v he hv
    exact ⟨a, o, t, u, n, e1, kp _ _ e2, e3, e4⟩
  refine sorted_by (κ := tuples' true) (f := fun i => rk ltI es (es.getD i (0, 0))) pl.isList (by omega) (fun h2 A' h' kp Q' E' q' => kind_I (by omega) h2 (keepT kp) q') (fun A' h' kp i j C hi hj hC => ?_) fun p P1 U1 => ?_
  · obtain ⟨ei, hei⟩ := some_of_lt (xs := es) (i := i) (by omega)
    obtain ⟨ej, hej⟩ := some_of_lt (xs := es) (i := j) (by omega)
    obtain ⟨vi, hvi⟩ := some_of_lt (xs := its) (i := i) hi
    obtain ⟨vj, hvj⟩ := some_of_lt (xs := its) (i := j) hj
    unfold kas_ask
    have g : ∀ {α : Type} {l : List α} {k : Nat} {x d : α}, l[k]? = some x -> l.getD k d = x := fun h => by rw [List.getD_eq_getElem?_getD, h]; rfl
    rw [g hvi, g hvj]
    have hC : C (decide (rk ltI es (es.getD i (0, 0)) < rk ltI es (es.getD j (0, 0)))) _ := hC
    have e2 : decide (rk ltI es (es.getD i (0, 0)) < rk ltI es (es.getD j (0, 0))) = ltI ei ej := by
      rw [rk_lt so_I (by rw [g hei]; exact List.mem_of_getElem? hei), g hei, g hej]
    rw [e2] at hC
    exact ask_I (keepT kp i ei vi hei hvi) (keepT kp j ej vj hej hvj) hC
  · have hn : its.length = es.length := by omega
    rw [hn] at P1 U1
    obtain ⟨s1, s2⟩ := sorted_of so_I P1 U1
    have hin : ∀ i ∈ p.toList, i < es.length := fun i hi => by
      have := (Array.perm_iff_toList_perm.mp P1).mem_iff.mp hi
      simpa using this
    have hpl : p.toList.length = es.length := by have := (Array.perm_iff_toList_perm.mp P1).length_eq; simpa using this
    obtain ⟨c, hc⟩ := sortedAll_at s.heap its (List.toArray (p.toList.map fun i => its.getD i Value.none))
    have L := l2r_ofI hes p.toList (0, 0) V.non hin
    refine ⟨.ref (s.heap.objs.size + 1), _, I.laid (t' := s.toks) (fun b o e => sortedAll_old e) (Nat.le_succ _) (show ObjOk X.prog X.w _ _ _ (.lst (p.toList.map fun i => vs.getD i V.non)) from ⟨by rw [List.length_map]; omega, p.toList.map (fun i => its.getD i Value.none), c, ?_, hc⟩), rfl, q _ _ _ (I.hok.fresh (Nat.le_succ _)) s1 s2 L (by rw [List.length_map]; omega)⟩
    have key : ∀ (q : List Nat), (∀ i ∈ q, i < es.length) -> Vals (q.map fun i => vs.getD i V.non) (q.map fun i => its.getD i Value.none) := by
      intro q
      induction q with
      | nil => exact fun _ => .nil
      | cons i q ih =>
        intro hq'
        have hi := hq' i (by simp)
        obtain ⟨x, hx⟩ := some_of_lt (xs := vs) (i := i) (by omega)
        obtain ⟨v', hv', rv'⟩ := rv.get hx
        refine .cons ?_ (ih fun j hj => hq' j (by simp [hj]))
        dsimp only
        rw [List.getD_eq_getElem?_getD, List.getD_eq_getElem?_getD, hx, hv']
        exact rv'
    exact key _ hin
end
end L2
namespace L2
open PySem PySem.Spec PyProof.Rows
section
variable {X : Cx} {tg : Expr}
theorem qs_par {i j : Nat} {x y : Str} {a b : Expr} {ta : TA} {px py pt pos : Pos} {kt k2 pt2} (hc : X.calm = true) (hN : X.N.Nodup) (hi : X.N[i]? = some x) (hj : X.N[j]? = some y) (hij : i ≠ j)
    (hx : X.env.scope.names.lookup x = some .local) (hy : X.env.scope.names.lookup y = some .local) (ha : QA X [a, b] ta)
    (hw : swappedStores [.Tuple [.Name x px, .Name y py] kt pt] (.Tuple [a, b] k2 pt2) X.env = pure (some [x, y]))
    (hs : swapsWithSole [.Tuple [.Name x px, .Name y py] kt pt] (.Tuple [a, b] k2 pt2) pos.line X.env = pure false := by rfl) :
    QS X (.Assign [.Tuple [.Name x px, .Name y py] kt pt] (.Tuple [a, b] k2 pt2) pos) (tPar i j ta) := ⟨ps_par hc hN hi hj hij hx hy ha.h hw hs⟩
end
end L2
namespace L2
open PySem PySem.Spec PyProof.Rows
theorem gaBE_slot : Slot "ValueError" "__getattribute__" "BaseException.__getattribute__" :=
  .of (owner := "BaseException") (n := "__getattribute__") (by rw [typeLookup_type, builtinLookup_eq_fast]; kernel_rfl) (by decide +kernel) (by decide +kernel) (by decide +kernel) (by first | exact .inl (by decide +kernel) | exact .inr (by decide +kernel)) (by rw [isSubtype_type]; kernel_rfl)
theorem gaBE_kind : builtinKind "BaseException.__getattribute__" = some .slot := by decide +kernel
theorem gaBE_split : splitId "BaseException.__getattribute__" = some ("BaseException", "__getattribute__") := by decide +kernel
theorem getx {prog : Program} {w : World} {A : Around} {E : Value -> Shared -> Prop} {s : Shared} {K : PySem.W.Frag} {x C : Addr} {ox : Obj} {od : Option Obj} {name : Str} {ex : Bool} {v : Value} {Q : Value -> Shared -> Prop} (X : K.In s.heap) (I : PySem.W.InstAt s.heap x ox C od)
    (ha : PySem.W.findIn K (.ref C) "__getattribute__" = some (some (.builtin "BaseException.__getattribute__"))) (hn : PySem.W.findIn K (.ref C) "__getattr__" = some none) (hm : PySem.W.mroIn K C (.type "BaseException") = some true)
    (hf : PySem.W.findObj K C od name = some (.value v)) (hv : PySem.W.handedIn v = true) (h : ∀ tk, Q v { s with toks := tk }) : wpAny (model prog w) A (getAttr (.ref x) name ex) Q E s := by
  obtain ⟨hh, g, d, t, os⟩ := s
  have T0 := I.type (M := model prog w)
  have T1 := PySem.W.looks_findIn (M := model prog w) X ha
  have T2 := PySem.W.looks_find (M := model prog w) X I hf
  have T3 := PySem.W.looks_findIn (M := model prog w) X hn
  have T4 : PySem.W.Looks (model prog w) hh (isInstance (.ref x) (.type "BaseException")) true := T0.andThen (PySem.W.looks_mroIn X hm)
  unfold getAttr getAttrBy
  refine wpAny_bind (wpAny_mkText (wpAny_holding (wpAny_bind (T0.at (wpAny_bind (T1.at ?_))))))
  show wpAny _ _ (getAttrByItsOwn _ _ _ _ _ _) _ _ _
  unfold getAttrByItsOwn hookBefore
  refine wpAny_bind (T3.at (wpAny_bind (wpAny_attempt ?_)))
  unfold callGetattribute
  rw [show (ex && onTheHeap (Value.builtin "BaseException.__getattribute__")) = false by cases ex <;> rfl]
  rw [if_neg (by decide)]
  unfold boundAndCalled
  repeat wp_step
  rw [gaBE_slot.bind]
  refine wpAny_pure ?_
  dsimp only
  refine wpAny_call (codeAny_call_builtin gaBE_slot.plain F.entry_bexc_ga ?_)
  have hA := F.args_bexc_ga (.ref x) (.str name t)
  simp only [checkBuiltinCall, gaBE_kind, gaBE_split]
  refine wpAny_bind (T4.at ?_)
  rw [if_neg (by decide)]
  have fin : wpAny (model prog w) A.in1 (Builtin.«object.__getattribute__» ⟨[.ref x, .str name t], []⟩) (fun fin s' => match fin with | .done (.ret v) => wpAny (model prog w) A (handedOut v) Q E s' | _ => False) (fun _ _ => False) ⟨hh, g, d, t + 1, os⟩ := by
    unfold Builtin.«object.__getattribute__»
    refine wpAny_bind (wpAny_pure (wpAny_bind (wpAny_pure (wpAny_bind (T0.at (wpAny_bind (T2.at ?_)))))))
    refine wpAny_pure ?_
    show wpAny _ _ (handedOut v) _ _ _
    rw [PySem.W.handedOut_of hv]
    exact wpAny_pure (h (t + 1))
  refine wpAny_mono (Q := fun _ s1 => s1 = ⟨hh, g, d, t + 1, os⟩) ?_ (fun _ s1 e1 => ?_) fun _ _ z => z
  · cases hsg : Manifest.signature? "BaseException.__getattribute__" with
    | none => exact wpAny_pure rfl
    | some sig =>
      simp only [argsOk, hsg] at hA
      have h2 : Bind.checkArgs "BaseException.__getattribute__" sig ⟨[.ref x, .str name t], []⟩ = pure () := hA
      show wpAny _ _ (Bind.checkArgs "BaseException.__getattribute__" sig ⟨[.ref x, .str name t], []⟩) _ _ _
      rw [h2]
      exact wpAny_pure rfl
  · subst e1
    refine wpAny_mono fin (fun fin s' z => ?_) fun _ _ z => z.elim
    rcases fin with (_ | _ | _ | _) | _ <;> first | exact z | exact z.elim
end L2
namespace L2
open PySem PySem.Spec PyProof.Rows
open Builtin Builtin.ObjectAttr
def excOver : List Value -> Bool
  | .ref _ :: r => excOver r
  | [.type a, .type b, .type c, .type d] => a == "ValueError" && b == "Exception" && c == "BaseException" && d == "object"
  | _ => false
theorem excOver_pass (self : Value) : ∀ {l : List Value}, excOver l = true -> refuseLoop self "__setattr__" l = pure () /\ l.contains (.type "object") = true
  | .ref c :: r, e => by
    obtain ⟨e1, e2⟩ := excOver_pass self (l := r) (by unfold excOver at e; exact e)
    exact ⟨by rw [refuseLoop_ref]; exact e1, by rw [List.contains_cons, e2, Bool.or_true]⟩
  | [.type a, .type b, .type c, .type d], e => by
    unfold excOver at e
    simp only [Bool.and_eq_true, beq_iff_eq] at e
    obtain ⟨⟨⟨rfl, rfl⟩, rfl⟩, rfl⟩ := e
    exact ⟨PySem.F.store_ValueError.passes self, by decide +kernel⟩
section
variable {prog : Program} {w : World} {A : Around} {E : Value -> Shared -> Prop} {s : Shared} {K : PySem.W.Frag} {x C : Addr} {vs : Array Value} {sl : Array (Option Value)} {name : Str} {v : Value} {Q : Unit -> Shared -> Prop}
theorem setx (X : K.In s.heap) (hx : s.heap.get? x = some ⟨.ref C, none, .fields vs, sl⟩)
    (hs : PySem.W.findIn K (.ref C) "__setattr__" = some (some (.builtin "object.__setattr__"))) (hp : (PySem.W.clsIn K C).any (fun cd => excOver cd.mro) = true) (ht : PySem.W.findIn K (.ref C) name = some none) (hh : PySem.W.hasDictIn K C = true)
    (h : ∀ h' tk, h'.get? x = some ⟨.ref C, some s.heap.objs.size, .fields vs, sl⟩ -> h'.Ns1 s.heap.objs.size (fun y => if y = name then some v else none) -> (∀ b o, b ≠ x -> s.heap.get? b = some o -> h'.get? b = some o) -> Q () { s with heap := h', toks := tk }) :
    wpAny (model prog w) A (setAttr (.ref x) name v) Q E s := by
  obtain ⟨hp0, g, d, t, os⟩ := s
  have I : PySem.W.InstAt hp0 x ⟨.ref C, none, .fields vs, sl⟩ C none := ⟨hx, rfl, rfl, trivial⟩
  have SF := PySem.F.store_ValueError
  obtain ⟨cd, hcd, ho⟩ := PySem.W.any_some hp
  obtain ⟨cd', hcd', hdict⟩ := PySem.W.any_some hh
  rw [hcd] at hcd'
  cases hcd'
  obtain ⟨pass, cont⟩ := excOver_pass (.ref x) ho
  have ne : cd.mro.isEmpty = false := by
    cases q : cd.mro with
    | nil => rw [q] at cont; cases cont
    | cons _ _ => rfl
  have T0 := I.type (M := model prog w)
  have sub : PySem.W.Looks (model prog w) hp0 (isInstance (.ref x) (.type "object")) true := T0.andThen (PySem.W.looks_mroIn X (by unfold PySem.W.mroIn; rw [hcd, Option.bind_some, if_neg (by rw [ne]; decide), cont]))
  have hm : PySem.W.Looks (model prog w) hp0 (mroOf (.ref C)) cd.mro := (PySem.W.looks_clsIn X hcd).andThen .now
  have T1 := PySem.W.looks_findIn (M := model prog w) X ht
  refine PySem.W.set_plain X I hs ?_
  refine codeAny_call_builtin SF.slot.plain SF.entry (@PySem.W.check_slot (model prog w) _ _ ⟨hp0, g, d, t + 1, os⟩ "object.__setattr__" "object" "__setattr__" (.ref x) [.str name t, v] [] _ SF.kind SF.split sub (SF.args (.ref x) (.str name t) v) ?_)
  rw [PySem.W.osa_eq, refuse_eq]
  refine wpAny_bind (wpAny_bind (T0.at (wpAny_bind (hm.at ?_))))
  rw [pass]
  refine wpAny_pure (wpAny_bind (T0.at (wpAny_bind (T1.at (wpAny_bind (PySem.W.Looks.now.at ?_))))))
  show wpAny _ _ (storeInOwnDict (.ref x) (.ref C) (.str name t) name v false) _ _ _
  unfold storeInOwnDict ownStreamTells ownDictForStores
  have hx1 : (hp0.push { cls := .type "dict", data := .dict #[] }).get? x = some ⟨.ref C, none, .fields vs, sl⟩ := Heap.get?_push_of_some _ hx
  have nx : x ≠ hp0.objs.size := Nat.ne_of_lt (Heap.lt_size hx)
  have Tc := PySem.W.looks_clsIn (M := model prog w) X hcd
  have gd : ((hp0.push { cls := .type "dict", data := .dict #[] }).update x fun o => { cls := o.cls, dict := some hp0.objs.size, data := o.data, slots := o.slots }).get? hp0.objs.size = some { cls := .type "dict", data := .dict #[] } :=
    (Heap.get?_update_ne _ _ _ _ nx.symm).trans (Heap.get?_push_at rfl rfl)
  have gx : ((hp0.push { cls := .type "dict", data := .dict #[] }).update x fun o => { cls := o.cls, dict := some hp0.objs.size, data := o.data, slots := o.slots }).get? x = some ⟨.ref C, some hp0.objs.size, .fields vs, sl⟩ := Heap.get?_update_self _ hx1 rfl
  have gk : ∀ b o, b ≠ x -> hp0.get? b = some o -> ((hp0.push { cls := .type "dict", data := .dict #[] }).update x fun o => { cls := o.cls, dict := some hp0.objs.size, data := o.data, slots := o.slots }).get? b = some o := fun b o nb e => (Heap.get?_update_ne _ _ _ _ nb).trans (Heap.get?_push_of_some _ e)
  have gn := Heap.Ns1.of_empty ⟨_, #[], _, gd, rfl, (fun e he => absurd he (by simp)), fun _ => rfl⟩
  repeat (first | with_reducible refine wpAny_loadPart_at hx ?_ | with_reducible refine Tc.at ?_ | with_reducible refine wpAny_nsSet1 gn fun h' n' sb => ?_ | wp_step)
  obtain ⟨oD, esD, epD, hoD, hdD, hcD⟩ := n'.count (Within.cons name v Within.nil)
  repeat wp_step
  rw [show oD.data.pastItsLine = none by rw [hdD]; exact pastItsLine_dict (Nat.le_trans hcD (by rw [List.length_cons, List.length_nil, sizeLine_eq]; omega))]
  refine wpAny_pure (wpAny_pure ?_)
  exact h h' _ ((sb.2 x nx).trans gx) n' fun b o nb e => (sb.2 b (Nat.ne_of_lt (Heap.lt_size e))).trans (gk b o nb e)
end
end L2
namespace L2
open PySem PySem.Spec PyProof.Rows
def excInI (K : PySem.W.Frag) (C : Addr) : Bool :=
  match K.lookup C with
  | some ⟨.type "type", _, .cls cd, sl⟩ =>
    match cd.mro, sl.toList with
    | .ref D :: bm, [_, _, _, _, some (.builtin n), _] => (D == C && n == "ValueError.__new__") && (!cd.hasDel && PySem.W.tailIn K vbm bm)
    | _, _ => false
  | _ => false
theorem exc_objI {K : PySem.W.Frag} {h : Heap} {C : Addr} (X : K.In h) (q : excInI K C = true) :
    ∃ bm N nm qn bs hdct sn sub ab col dd k0 k1 k2 k3 k5, h.get? C = some (excClassObj nm qn C N bs bm hdct sn sub ab col dd k0 k1 k2 k3 k5 "ValueError.__new__") /\ OwnTail h vbm bm /\
      ∀ v b, PySem.W.mroIn K C v = some b -> (Value.ref C :: bm).contains v = b := by
  unfold excInI at q
  split at q
  · rename_i dd cd sl ho
    split at q
    · rename_i C' bm k0 k1 k2 k3 n k5 hm hs
      simp only [Bool.and_eq_true, beq_iff_eq, Bool.not_eq_true'] at q
      obtain ⟨⟨rfl, rfl⟩, hdel, ht⟩ := q
      obtain ⟨nm, bs, mro, ns, qn, hd, sn, sub, ab, col, del⟩ := cd
      dsimp only at hm hdel
      subst hm hdel
      have hsl : sl = #[k0, k1, k2, k3, some (.builtin "ValueError.__new__"), k5] := by
        obtain ⟨l⟩ := sl
        simp only at hs
        rw [hs]
      subst hsl
      refine ⟨bm, ns, nm, qn, bs, hd, sn, sub, ab, col, dd, k0, k1, k2, k3, k5, X _ _ ho, PySem.W.tail_of_in X ht, fun v b e => ?_⟩
      unfold PySem.W.mroIn PySem.W.clsIn at e
      rw [ho] at e
      simpa using e
    · cases q
  · cases q
section
variable {prog : Program} {w : World} {A : Around} {E : Value -> Shared -> Prop} {K : PySem.W.Frag} {s : Shared} {C fI : Addr} {rest : List Value}
abbrev newExc (C t : Addr) : Obj := { cls := .ref C, data := .fields #[.ref t, .none, .none, .none, .bool false, .none] }
theorem type_callI {Q : Fin -> Shared -> Prop} (X : K.In s.heap) (hC : excInI K C = true) (hi : PySem.W.findIn K (.ref C) "__init__" = some (some (.ref fI))) (hf : PySem.W.typeIn K (.ref fI) = some (.type "function")) (hrest : rest.length <= sizeLine)
    (hq : ∀ h' e t, (∀ b o, s.heap.get? b = some o -> h'.get? b = some o) -> s.heap.get? e = none -> h'.get? e = some (newExc C t) ->
      codeAny (model prog w) A (.call (.ref fI) ⟨.ref e :: rest, []⟩) (fun r s' => r = .ok (.ret .none) /\ Q (.done (.ret (.ref e))) s') { s with heap := h' }) :
    wpAny (model prog w) A (Builtin.«type.__call__» ⟨.ref C :: rest, []⟩) Q E s := by
  obtain ⟨h, g, d, t, os⟩ := s
  obtain ⟨bm, N, nm, qn, bs, hdct, sn, sub, ab, col, dd, k0, k1, k2, k3, k5, oC, T, hm⟩ := exc_objI X hC
  have F := PySem.F.excBase_ValueError
  repeat (first | with_reducible refine wpAny_loadPart_at oC ?_ | with_reducible refine wpAny_madeBy_exc oC ?_ | wp_step)
  refine codeAny_call_builtin_code (Code.quiet_builtin _ F.quiet) (wpAny_check_new_subT F T oC (codeAny_exc_new_subT F T oC ?_ hrest))
  show wpAny _ _ _ _ _ _
  have kp : ∀ b o, h.get? b = some o -> ((h.push { cls := .type "tuple", data := .seq rest.toArray }).push (newExc C h.objs.size)).get? b = some o := fun b o e => Heap.get?_push_of_some _ (Heap.get?_push_of_some _ e)
  have X1 : K.In ((h.push { cls := .type "tuple", data := .seq rest.toArray }).push (newExc C h.objs.size)) := fun b o e => kp b o (X b o e)
  have oE : ((h.push { cls := .type "tuple", data := .seq rest.toArray }).push (newExc C h.objs.size)).get? (h.objs.size + 1) = some (newExc C h.objs.size) := by
    have := Heap.get?_push_size (h.push { cls := .type "tuple", data := .seq rest.toArray }) (o := newExc C h.objs.size) rfl
    rwa [Heap.size_push] at this
  have cC : (Value.ref C :: bm).contains (.ref C) = true := by simp
  have T1 := PySem.W.looks_findIn (M := model prog w) X1 hi
  unfold isInstance
  repeat (first | with_reducible refine wpAny_loadPart_at oE ?_ | (with_reducible refine wpAny_isSubtype_exc (kp _ _ oC) ?_; rw [cC]) | wp_step)
  have T2 := PySem.W.bind_fn (M := model prog w) X1 (.ref (h.objs.size + 1)) hf
  repeat (first | with_reducible refine wpAny_loadPart_at oE ?_ | with_reducible refine T1.at ?_ | with_reducible refine T2.at ?_ | wp_step)
  refine codeAny_mono (hq _ (h.objs.size + 1) h.objs.size kp (Heap.get?_none_of_le (Nat.le_succ _)) oE) fun r s' z => ?_
  obtain ⟨rfl, z⟩ := z
  refine wpAny_pure ?_
  wp_walk
  exact z
theorem callI {Q : Value -> Shared -> Prop} (X : K.In s.heap) (hC : excInI K C = true) (hi : PySem.W.findIn K (.ref C) "__init__" = some (some (.ref fI))) (hf : PySem.W.typeIn K (.ref fI) = some (.type "function")) (hrest : rest.length <= sizeLine)
    (hq : ∀ h' e t, (∀ b o, s.heap.get? b = some o -> h'.get? b = some o) -> s.heap.get? e = none -> h'.get? e = some (newExc C t) ->
      codeAny (model prog w) (A.under (.builtin "type.__call__" ⟨.ref C :: rest, []⟩)) (.call (.ref fI) ⟨.ref e :: rest, []⟩) (fun r s' => r = .ok (.ret .none) /\ Q (.ref e) s') { s with heap := h' }) :
    wpAny (model prog w) A (call (.ref C) rest) Q E s := by
  obtain ⟨h, g, d, t, os⟩ := s
  obtain ⟨bm, N, nm, qn, bs, hdct, sn, sub, ab, col, dd, k0, k1, k2, k3, k5, oC, T, hm⟩ := exc_objI X hC
  have y1 := tc_lookup
  have y2 := tc_bind (.ref C)
  have y3 : (⟨h, g, d, t, os⟩ : Shared).TypeIs (.ref C) "type" := ⟨_, oC, rfl⟩
  refine wpAny_call (codeAny_of_tree ?_)
  show wpAny _ _ (callAny (.ref C) _) _ _ _
  repeat (any_goals (first | assumption | with_reducible refine wpAny_loadPart_at oC ?_ | wp_step))
  refine ⟨rfl, codeAny_call_builtin_at (Code.quiet_builtin _ (by decide +kernel)) entry_typeCall (wpAny_check_type_call_sub oC (type_callI X hC hi hf hrest fun h' e tt k1 k2 k3 => ?_))⟩
  exact hq h' e tt k1 k2 k3
end
theorem raiseStmtI {prog : Program} {w : World} {A : Around} {E : Value -> Shared -> Prop} {K : PySem.W.Frag} {s : Shared} {env : Env} {C : Addr} {x : Sem Value} {Q : Flow -> Shared -> Prop} (hC : excInI K C = true) (hh : A.handled = none)
    (h : wpAny (model prog w) A x (fun v sx => ∃ e t od sl, v = .ref e /\ K.In sx.heap /\ sx.heap.get? e = some ⟨.ref C, od, .fields #[.ref t, .none, .none, .none, .bool false, .none], sl⟩ /\ E (.ref e) sx) E s) :
    wpAny (model prog w) A (raiseStmt env (some x) none) Q E s := by
  unfold raiseStmt
  refine wpAny_bind (wpAny_mono h (fun v sx hx => ?_) fun _ _ x => x)
  obtain ⟨e, t, od, sl, rfl, X, oE, hE⟩ := hx
  obtain ⟨bm, N, nm, qn, bs, hdct, sn, sub, ab, col, dd, k0, k1, k2, k3, k5, oC, T, hm⟩ := exc_objI X hC
  have cB : (Value.ref C :: bm).contains (.type "BaseException") = true := by rw [List.contains_cons, T.hasType (b := true) (by decide +kernel), Bool.or_true]
  obtain ⟨hh0, g, d, tk, os⟩ := sx
  repeat (first | with_reducible refine wpAny_loadPart_at oE ?_ | with_reducible refine wpAny_loadPart_at oC ?_ | (with_reducible refine wpAny_isSubtype_exc oC ?_; rw [cB]) | wp_step)
  unfold raiseNew
  refine wpAny_bind (wpAny_handled ?_)
  rw [hh]
  exact wpAny_throw hE
theorem RaiseI {prog : Program} {w : World} {A : Around} {E : Value -> Shared -> Prop} {K : PySem.W.Frag} {s : Shared} {env : Env} {C fI : Addr} {x : Str} {np cpos pos : Pos} {args : List Expr} {Q : Flow -> Shared -> Prop} (hC : excInI K C = true) (hi : PySem.W.findIn K (.ref C) "__init__" = some (some (.ref fI))) (hf : PySem.W.typeIn K (.ref fI) = some (.type "function"))
    (hh : A.handled = none) (hpln : (backTo cpos (starEach args env)).any (·.1) = false)
    (h : wpAny (model prog w) A (eval (.Name x np) env) (fun f sx => f = .ref C /\ wpAny (model prog w) A (evalArgs (.ref C) true (backTo cpos (starEach args env)) []) (fun a sy => a.kw = [] /\ a.pos.length <= sizeLine /\ K.In sy.heap /\
      ∀ h' e t, (∀ b o, sy.heap.get? b = some o -> h'.get? b = some o) -> sy.heap.get? e = none -> h'.get? e = some (newExc C t) ->
        codeAny (model prog w) (A.under (.builtin "type.__call__" ⟨.ref C :: a.pos, []⟩)) (.call (.ref fI) ⟨.ref e :: a.pos, []⟩) (fun r s' => r = .ok (.ret .none) /\ ∃ t od sl, K.In s'.heap /\ s'.heap.get? e = some ⟨.ref C, od, .fields #[.ref t, .none, .none, .none, .bool false, .none], sl⟩ /\ E (.ref e) s') { sy with heap := h' }) E sx) E s) :
    wpAny (model prog w) A (exec (.Raise (some (.Call (.Name x np) args [] cpos)) none pos) env) Q E s := by
  rw [arm_exec_Raise]
  simp only [evalOpt, Option.map]
  refine wpAny_bind (wpAny_standAt (raiseStmtI (K := K) hC hh (wpAny_bind (wpAny_mono (wpAny_Call_ofName (wpAny_mono h (fun f sx hx => ?_) fun _ _ x => x)) (fun v sz hz => wpAny_bind (wpAny_standAt (wpAny_pure hz))) fun _ _ x => x))))
  obtain ⟨rfl, hx⟩ := hx
  unfold callWith
  refine wpAny_bind (wpAny_holding (wpAny_mono hx (fun a sy hy => wpAny_bind (wpAny_standAt ?_)) fun _ _ x => x))
  obtain ⟨apos, akw⟩ := a
  obtain ⟨hkw, hle, X, hy⟩ := hy
  obtain rfl : akw = [] := hkw
  simp only [hpln]
  obtain ⟨bm, N, nm, qn, bs, hdct, sn, sub, ab, col, dd, k0, k1, k2, k3, k5, oC, T, hm⟩ := exc_objI X hC
  obtain ⟨hh0, g, d, tk, os⟩ := sy
  refine wpAny_bind (wpAny_keeperOf_exc oC ?_)
  refine wpAny_bind (callI (K := K) X hC hi hf hle fun h' e t k1 k2 k3 => codeAny_mono (hy h' e t k1 k2 k3) fun r s' z => ⟨z.1, ?_⟩)
  obtain ⟨_, t', od, sl, X', o', z⟩ := z
  exact wpAny_bind (wpAny_holding (wpAny_point (wpAny_pure ⟨e, t', od, sl, rfl, X', o', z⟩)))
end L2
namespace L2
open PySem PySem.Spec PyProof.Rows
theorem dict_mapFields (f : Array Value -> Array Value) (o : Obj) : (Obj.mapFields f o).dict = o.dict := by
  unfold Obj.mapFields
  split <;> rfl
def TrD (h : Heap) (e dx : Addr) : Prop := ∃ oe vs T oT ts, h.get? e = some oe /\ oe.data = .fields vs /\ vs[1]? = some (.ref T) /\ oe.dict = some dx /\ T ≠ e /\ h.get? T = some oT /\ oT.data = .fields ts /\ 3 < ts.size
section
variable {M : Model} {A : Around} {E : Value -> Shared -> Prop} {s : Shared} {dx : Addr}
theorem tail_trD {base : Heap} {env : Env} {outer : List Env} {L e : Addr} {oe : Obj} {vs : Array Value} {head : Value} {had : Bool}
    (fr : A.frames = some (env :: outer)) (ff : s.heap.FunFrames base (env :: outer)) (ef : env.frame = some L)
    (he : s.heap.get? e = some oe) (hd : oe.data = .fields vs) (h1 : 1 < vs.size) (h2 : oe.dict = some dx) :
    wpAny M A (do setField (.ref e) 1 (<- EntryCells.newEntry head (<- PySem.frameOf env) .none (rawInt L) .none (<- entryPlaceOf L had))) (fun _ s' => TrD s'.heap e dx) E s := by
  have out : e ∉ (env :: outer).filterMap (·.frame) := fun m => by
    obtain ⟨_, o, eo, no⟩ := ff.mem m
    rw [he] at eo
    cases eo
    exact no vs hd
  refine wpAny_bind (wpAny_frameOf_fun fr ff ef fun hA sA => wpAny_bind (wpAny_entryPlaceOf fun cells hc => ?_))
  have heA : hA.get? e = some oe := (sA.2.1 e out).trans he
  have ne : hA.objs.size ≠ e := Nat.ne_of_gt (Heap.lt_size heA)
  unfold EntryCells.newEntry newFields
  refine wpAny_bind (wpAny_newObj_type (wpAny_setField (Heap.get?_push_of_some _ heA) hd h1 ?_) (hc.sizeOk5 _ _ _ _ _))
  have dn := Obj.data_mapFields hd (·.setIfInBounds 1 (Value.ref hA.objs.size))
  refine ⟨_, _, hA.objs.size, _, _, Heap.get?_update_self _ (Heap.get?_push_of_some _ heA) (Obj.isFreed_of_fields dn), dn, by simp [h1], by rw [dict_mapFields]; exact h2, ne, (Heap.get?_update_other _ _ (Ne.symm ne)).trans (Heap.get?_push_size hA rfl), rfl, ?_⟩
  simp only [List.size_toArray, List.length_append, List.length_cons, List.length_nil] <;> omega
theorem note_trD {base : Heap} {env : Env} {outer : List Env} {L e : Addr} (hfr : A.frames = some (env :: outer)) (hl : s.heap.FunFrames base (env :: outer)) (hf : env.frame = some L) (x : TrD s.heap e dx) :
    wpAny M A (noteFrame (.ref e) env) (fun _ s' => TrD s'.heap e dx) E s := by
  obtain ⟨oe, vs, T, oT, ts, he, hd, h1, h2, hTe, hT, hdT, h3⟩ := x
  have hx : TrD s.heap e dx := ⟨oe, vs, T, oT, ts, he, hd, h1, h2, hTe, hT, hdT, h3⟩
  unfold noteFrame
  simp only [hf]
  refine wpAny_bind (wpAny_field he hd h1 ?_)
  rw [if_pos (show (Value.ref T != Value.none) = true from by simp)]
  refine wpAny_bind (wpAny_field hT hdT (Array.getElem?_eq_getElem h3) ?_)
  by_cases hm : (ts[3] == rawInt L) = true
  · rw [if_pos hm]
    exact wpAny_pure hx
  rw [if_neg hm]
  refine wpAny_bind (wpAny_setField hT hdT h3 ?_)
  refine tail_trD hfr (hl.of_keeps fun b o hb nf => ⟨o, (Heap.get?_update_other _ _ fun z => ?_).trans hb, rfl⟩) hf ((Heap.get?_update_other _ _ hTe).trans he) hd (Array.getElem?_eq_some_iff.mp h1).1 h2
  rw [<- z, hT] at hb
  cases hb
  exact nf ts hdT
theorem note_firstD {base : Heap} {env : Env} {outer : List Env} {L e : Addr} {oe : Obj} {vs : Array Value} (hfr : A.frames = some (env :: outer)) (hl : s.heap.FunFrames base (env :: outer)) (hf : env.frame = some L)
    (he : s.heap.get? e = some oe) (hd : oe.data = .fields vs) (h1 : vs[1]? = some Value.none) (h2 : oe.dict = some dx) :
    wpAny M A (noteFrame (.ref e) env) (fun _ s' => TrD s'.heap e dx) E s := by
  unfold noteFrame
  simp only [hf]
  refine wpAny_bind (wpAny_field he hd h1 ?_)
  rw [if_neg (by decide)]
  exact tail_trD hfr hl hf he hd (Array.getElem?_eq_some_iff.mp h1).1 h2
theorem flight_trD {e : Addr} (x : TrD s.heap e dx) : wpAny M A (setFlight (.ref e) none) (fun _ s' => TrD s'.heap e dx) E s := by
  obtain ⟨oe, vs, T, oT, ts, he, hd, h1, h2, hTe, hT, hdT, h3⟩ := x
  unfold setFlight
  refine wpAny_bind (wpAny_field he hd h1 ?_)
  rw [if_pos (show (Value.ref T != Value.none) = true from by simp)]
  refine wpAny_setField hT hdT h3 ?_
  exact ⟨oe, vs, T, _, _, (Heap.get?_update_other _ _ hTe).trans he, hd, h1, h2, hTe, Heap.get?_update_self _ hT (Obj.isFreed_of_fields (Obj.data_mapFields hdT _)), Obj.data_mapFields hdT _, by simpa using h3⟩
theorem leave_trD {base : Heap} {env : Env} {outer : List Env} {L e : Addr} (hfr : A.frames = some (env :: outer)) (hl : s.heap.FunFrames base (env :: outer)) (hf : env.frame = some L) (x : TrD s.heap e dx) :
    wpAny M A (leaving env (.ref e)) (fun _ s' => TrD s'.heap e dx) E s := by
  unfold leaving
  exact wpAny_bind (wpAny_mono (note_trD (E := E) hfr hl hf x) (fun _ s' y => flight_trD y) fun _ _ z => z)
theorem leave_firstD {base : Heap} {env : Env} {outer : List Env} {L e : Addr} {oe : Obj} {vs : Array Value} (hfr : A.frames = some (env :: outer)) (hl : s.heap.FunFrames base (env :: outer)) (hf : env.frame = some L)
    (he : s.heap.get? e = some oe) (hd : oe.data = .fields vs) (h1 : vs[1]? = some Value.none) (h2 : oe.dict = some dx) :
    wpAny M A (leaving env (.ref e)) (fun _ s' => TrD s'.heap e dx) E s := by
  unfold leaving
  exact wpAny_bind (wpAny_mono (note_firstD (E := E) hfr hl hf he hd h1 h2) (fun _ s' y => flight_trD y) fun _ _ z => z)
theorem looksD {base : Heap} {env : Env} {outer : List Env} {L e : Addr} {cls a0 : Value} {Q : Unit -> Shared -> Prop}
    (hfr : A.frames = some (env :: outer)) (hf : env.frame = some L) (hfl : Heap.FlyingW base (env :: outer) e cls a0 s.heap) (x : TrD s.heap e dx)
    (hQ : ∀ h', Heap.HeldW base (env :: outer) e cls a0 L h' -> s.heap.UpToSlots h' -> TrD h' e dx -> Q () { s with heap := h' }) : wpAny M A (noteFrame (.ref e) env) Q E s := by
  refine wpAny_mono (both (E := E) (E' := E) (det_note _ _) (wpAny_looks_onW (Q := fun _ s' => ∃ h', s' = { s with heap := h' } /\ Heap.HeldW base (env :: outer) e cls a0 L h' /\ s.heap.UpToSlots h') hfr hf hfl fun h' a b => ⟨h', rfl, a, b⟩) (note_trD hfr hfl.2.2.1 hf x)) (fun _ s' y => ?_) fun _ _ z => z.1
  obtain ⟨⟨h', rfl, a, b⟩, c⟩ := y
  exact hQ h' a b c
theorem landsD {base : Heap} {l : List Env} {e L : Addr} {cls a0 : Value} {Q : Unit -> Shared -> Prop} (hh : Heap.HeldW base l e cls a0 L s.heap) (x : TrD s.heap e dx)
    (hQ : ∀ h', Heap.FlyingW base l e cls a0 h' -> s.heap.UpToSlots h' -> TrD h' e dx -> Q () { s with heap := h' }) : wpAny M A (setFlight (.ref e) none) Q E s := by
  refine wpAny_mono (both (E := E) (E' := E) (det_flight _ _) (wpAny_landsW (Q := fun _ s' => ∃ h', s' = { s with heap := h' } /\ Heap.FlyingW base l e cls a0 h' /\ s.heap.UpToSlots h') hh fun h' a b => ⟨h', rfl, a, b⟩) (flight_trD x)) (fun _ s' y => ?_) fun _ _ z => z.1
  obtain ⟨⟨h', rfl, a, b⟩, c⟩ := y
  exact hQ h' a b c
theorem againD {base : Heap} {l : List Env} {e : Addr} {cls a0 : Value} {Q : Unit -> Shared -> Prop} (hh : Heap.FlyingW base l e cls a0 s.heap) (x : TrD s.heap e dx)
    (hQ : ∀ h', Heap.FlyingW base l e cls a0 h' -> s.heap.UpToSlots h' -> TrD h' e dx -> Q () { s with heap := h' }) : wpAny M A (setFlight (.ref e) none) Q E s := by
  refine wpAny_mono (both (E := E) (E' := E) (det_flight _ _) (lands_againW (Q := fun _ s' => ∃ h', s' = { s with heap := h' } /\ Heap.FlyingW base l e cls a0 h' /\ s.heap.UpToSlots h') hh fun h' a b => ⟨h', rfl, a, b⟩) (flight_trD x)) (fun _ s' y => ?_) fun _ _ z => z.1
  obtain ⟨⟨h', rfl, a, b⟩, c⟩ := y
  exact hQ h' a b c
end
end L2
namespace L2
open PySem PySem.Spec PyProof.Rows
abbrev fx (t : Addr) : Array Value := #[.ref t, .none, .none, .none, .bool false, .none]
abbrev rgO (C dx t : Addr) (sl : Array (Option Value)) : Obj := ⟨.ref C, some dx, .fields (fx t), sl⟩
structure RgC (K : PySem.W.Frag) (C fI : Addr) : Prop where
  ex : excInI K C = true
  ini : PySem.W.findIn K (.ref C) "__init__" = some (some (.ref fI))
  fn : PySem.W.typeIn K (.ref fI) = some (.type "function")
  sa : PySem.W.findIn K (.ref C) "__setattr__" = some (some (.builtin "object.__setattr__"))
  ov : (PySem.W.clsIn K C).any (fun cd => excOver cd.mro) = true
  rg : PySem.W.findIn K (.ref C) "ring" = some none
  hd : PySem.W.hasDictIn K C = true
  ga : PySem.W.findIn K (.ref C) "__getattribute__" = some (some (.builtin "BaseException.__getattribute__"))
  gt : PySem.W.findIn K (.ref C) "__getattr__" = some none
  ca : PySem.W.findIn K (.ref C) "__class__" = some (some (.builtin "object.__class__"))
  sp : PySem.W.specialIn K (.builtin "object.__class__") "__get__" = some (some (.builtin "getset_descriptor.__get__"))
  tk : PySem.W.takesIn K (.builtin "object.__class__") = some true
  mo : PySem.W.mroIn K C (.type "object") = some true
  mb : PySem.W.mroIn K C (.type "BaseException") = some true
def hid (H : Hp) (a : Addr) : Hp := fun b => if b = a then none else H b
theorem hid_ne {H : Hp} {a b : Addr} (h : b ≠ a) : hid H a b = H b := if_neg h
theorem hid_self {H : Hp} {a : Addr} : hid H a a = none := if_pos rfl
theorem HOk.hid {P : Program} {w : World} {H : Hp} {h : Heap} {a : Addr} {ob : Obj} (ok : HOk P w H h) (ha : H a = some (pinO a ob)) : HOk P w (hid H a) h := fun b u q => by
  have hb : b ≠ a := fun z => by rw [z, hid_self] at q; cases q
  rw [hid_ne hb] at q
  refine (ok b u q).stay (fun _ _ _ z => z) (fun c z => ?_) fun c xs z => ?_
  · rw [hid_ne (fun y => by rw [y, ha] at z; cases z)]; exact z
  · rw [hid_ne (fun y => by rw [y, ha] at z; cases z)]; exact z
theorem Un.hid {fs : List Addr} {H H' : Hp} {h h' : Heap} {a : Addr} {ob : Obj} (u : Un fs [] H H' h h') (ha : H' a = some (pinO a ob)) : Un fs [] H (hid H' a) h h' where
  keep := u.keep
  slot := u.slot
  free := fun b o q n hx => by
    by_cases hb : b = a
    · rw [hb, hid_self]
    · rw [hid_ne hb]; exact u.free b o q n hx
  there := u.there
  tups := fun b xs q => by
    have := u.tups b xs q
    rw [hid_ne (fun y => by rw [y, ha] at this; cases this)]; exact this
  frzs := fun b o v q => by
    have := u.frzs b o v q
    rw [hid_ne (fun y => by rw [y, ha] at this; cases this)]; exact this
  tbls := fun b ps q => by
    obtain ⟨m, this⟩ := u.tbls b ps q
    exact ⟨m, by rw [hid_ne (fun y => by rw [y, ha] at this; cases this)]; exact this⟩
section
variable {X : Cx} {pins : List (Addr × Obj)} {σ : St} {H H' : Hp} {s s' : Shared} {M : Model} {E' : Value -> Shared -> Prop} {a : Addr}
theorem Inv.news (I : Inv X pins σ H s) (hex : X.ex = []) (ha : s.heap.get? a = none) : H a = none /\ (∀ u, X.s₀.heap.get? a ≠ some u) /\ a ≠ X.env.locals /\ (∀ x c, X.env.cells.lookup x = some c -> c ≠ a) /\ ∀ p ∈ X.pn ++ pins, p.1 ≠ a := by
  refine ⟨?_, fun u z => ?_, fun z => ?_, fun y c e z => ?_, fun p hp z => ?_⟩
  · cases q : H a with
    | none => rfl
    | some o =>
      obtain ⟨ob, e⟩ := (I.hok a o q).there
      rw [ha] at e
      cases e
  · obtain ⟨o', e1⟩ := I.base.there a u z (by rw [hex]; simp)
    rw [ha] at e1
    cases e1
  · obtain ⟨m, hns, _⟩ := I.loc
    obtain ⟨oL, _, _, hoL, _⟩ := hns
    rw [<- z, ha] at hoL
    cases hoL
  · obtain ⟨v, oc, hoc', _⟩ := I.cell y c e
    rw [z, ha] at hoc'
    cases hoc'
  · obtain ⟨e1, _⟩ := I.pin p hp
    rw [z, ha] at e1
    cases e1
theorem Inv.raiseH (I : Inv X pins σ H s) (hs : X.stack = X.env :: X.outer) (hf : X.env.frame = some X.env.locals) (hex : X.ex = []) {C dx t : Addr} {sl : Array (Option Value)} (ha : H a = some (pinO a (rgO C dx t sl))) (hnew : X.s₀.heap.get? a = none) :
    wpAny M X.A (leaving X.env (.ref a)) (fun _ s'' => XO X.prog X.w X.outer X.H₀ X.s₀ (.ref C) a (hid H a) s'') E' s := by
  have hfr : X.A.frames = some (X.env :: X.outer) := by rw [<- hs]; exact I.ok.frames
  have hFF : s.heap.FunFrames X.base (X.env :: X.outer) := by rw [<- hs]; exact I.stack
  have hin : ∀ env ∈ (X.env :: X.outer), ∀ b, env.frame = some b -> b ∈ a :: frs (X.env :: X.outer) := fun env he b hb => List.mem_cons_of_mem _ (List.mem_filterMap.mpr ⟨env, he, hb⟩)
  have hfree : ∀ b ∈ frs (X.env :: X.outer), H b = none := by rw [<- hs]; exact I.stkFree
  have naf : a ∉ frs (X.env :: X.outer) := fun z => by rw [hfree a z] at ha; cases ha
  have ub : Un X.fs [] X.H₀ (hid H a) X.s₀.heap s.heap := by have := I.base; rw [hex] at this; exact this.hid ha
  have hok2 : HOk X.prog X.w (hid H a) s.heap := I.hok.hid ha
  have nL : ∀ o, X.s₀.heap.get? X.env.locals ≠ some o := fun o z => absurd (Nat.lt_of_lt_of_le (Heap.lt_size z) I.ok.above) (Nat.lt_irrefl _)
  have he := pin_at I.hok ha
  have big : ∀ b o, s.heap.get? b = some o -> b ∉ frs (X.env :: X.outer) -> b ≠ a -> (PySem.W.hideAll s.heap (a :: frs (X.env :: X.outer))).get? b = some o := fun b o e n m => PySem.W.hideAll_get _ e (fun z => (List.mem_cons.mp z).elim m n)
  have hkb : (PySem.W.hideAll s.heap (a :: frs (X.env :: X.outer))).StaysIn s.heap := fun b o q => PySem.W.of_hideAll _ q
  have hen : (PySem.W.hideAll s.heap (a :: frs (X.env :: X.outer))).get? a = none := by
    exact PySem.W.hideAll_none _ List.mem_cons_self
  refine wpAny_leaving_firstW (base := PySem.W.hideAll s.heap (a :: frs (X.env :: X.outer))) (a0 := .ref t) hfr (PySem.W.funFrames_hide hFF hin) hf he hkb hen rfl rfl rfl fun h' hL => ?_
  obtain ⟨k1, ⟨_, _, k2⟩, k3, up⟩ := hL
  have fl : Heap.FlyingW (PySem.W.hideAll s.heap (a :: frs (X.env :: X.outer))) X.outer a (.ref C) (.ref t) h' := ⟨k1, hen, k2, k3⟩
  have slots : ∀ b o, s.heap.get? b = some o -> b ∈ frs (X.env :: X.outer) -> ∃ sl, h'.get? b = some { o with slots := sl } := fun b o e hb => by
    obtain ⟨_, o', e', nf⟩ := hFF.mem hb
    rw [e] at e'
    cases e'
    exact up b o e nf
  have hfs : ∀ b ∈ frs (X.env :: X.outer), b ∈ X.fs \/ ∀ o, X.s₀.heap.get? b ≠ some o := fun b hb => by
    rw [frs_cons hf] at hb
    rcases List.mem_cons.mp hb with rfl | hb
    · exact .inr nL
    · exact .inl hb
  have sub : ∀ b ∈ X.fs, b ∈ frs (X.env :: X.outer) := fun b hb => by
    rw [frs_cons hf]
    exact List.mem_cons_of_mem _ hb
  have nea : ∀ b, (hid H a b ≠ none \/ ∃ o', X.s₀.heap.get? b = some o') -> b ≠ a := fun b hb z => by
    rcases hb with hb | ⟨o', hb⟩
    · exact hb (by rw [z, hid_self])
    · rw [z, hnew] at hb; cases hb
  refine ⟨I.os, I.bare, ub.fly hfs fl.1 (fun b o e n hb => big b o e n (nea b hb)) slots sub, hok2.fly (fun b hb => by rw [hid_ne (fun z : b = a => naf (z ▸ hb))]; exact hfree b hb) fl.1 (fun b o e n hb => big b o e n (nea b (.inl hb))), hnew, hid_self, _, _, fl, fun b o hb hn e => ?_⟩
  have hbs : ∃ ob, s.heap.get? b = some ob := by
    rcases hb with hb | ⟨o', hb⟩
    · cases q : hid H a b with
      | none => exact absurd q hb
      | some u => exact (hok2 b u q).there
    · exact ub.there b o' hb (by simp)
  have hnL : b ∉ frs (X.env :: X.outer) := fun z => by
    rw [frs_cons hf] at z
    rcases List.mem_cons.mp z with rfl | z
    · rcases hb with hb | ⟨o', hb⟩
      · refine hb ?_
        by_cases y : X.env.locals = a
        · rw [y, hid_self]
        · rw [hid_ne y]; exact I.free
      · exact nL o' hb
    · exact hn z
  obtain ⟨ob, e1⟩ := hbs
  have e2 := big b ob e1 hnL (nea b hb)
  have e3 := fl.1 b ob e2
  rw [e] at e3
  cases e3
  exact e2
end
end L2
namespace L2
open PySem PySem.Spec PyProof.Rows
def sFldX (K : PySem.W.Frag) (ta tv : TE) (f : Str) : TS := fun D σ H => tv σ H fun y H1 => ta σ H1 fun x H2 => ∃ a C fI t sl, x = .ref a /\ f = "ring" /\ RgC K C fI /\ H2 a = some (pinO a ⟨.ref C, none, .fields (fx t), sl⟩) /\
  ∀ dx, H2 dx = none -> D.nx σ (upd (upd H2 a (pinO a (rgO C dx t sl))) dx (.xd [(f, y)]))
theorem qs_fldX {X : Cx} {o value : Expr} {f : Str} {pos pos' : Pos} {ta tv : TE} (hex : X.ex = []) (ha : QE X o ta) (hv : QE X value tv) (hs : swapsWith value (some (.Attribute o f pos')) pos.line X.env = pure false := by rfl) : QS X (.Assign [.Attribute o f pos'] value pos) (sFldX X.K ta tv f) := ⟨by
  intro pins s σ H D I h
  refine plainObj_wpAny_Assign_Attribute (thn (hv.h pins s σ H _ I h) fun u s1 ⟨y, H1, I1, ry, q⟩ => thn (ha.h pins s1 σ H1 _ I1 q) fun ov s2 ⟨x, H2, I2, rx, a, C, fI, t, sl, ex, ef, c, ea, q2⟩ => ?_) hs
  subst ex ef
  obtain rfl : ov = Value.ref a := rx
  have hx := pin_at I2.hok ea
  have sz : s2.heap.get? s2.heap.objs.size = none := Heap.get?_none_of_le (Nat.le_refl _)
  obtain ⟨n1, n2, n3, n4, n5⟩ := I2.news hex sz
  have nad : s2.heap.objs.size ≠ a := fun z => by rw [z, hx] at sz; cases sz
  refine setx I2.kIn hx c.sa c.ov c.rg c.hd fun h' tk hx' ns' kp => ?_
  have I3 := I2.write (x := a) (e := a) (o := pinO a (rgO C s2.heap.objs.size t sl)) (t' := tk) (by rw [ea]; exact True.intro) (.inl rfl) (fun b u hb z => kp b u hb z) ⟨_, hx'⟩ (pin_ok hx')
  refine ⟨σ, _, I3.track (a := s2.heap.objs.size) (o := .xd [("ring", y)]) (by rw [upd_ne nad]; exact n1) n2 ⟨_, ns', fun g => ?_⟩ n3 n4 n5, q2 _ n1⟩
  by_cases q : g = "ring"
  · subst q
    rw [if_pos rfl]
    exact ry
  · rw [if_neg q, show List.lookup g [(("ring" : Str), y)] = none by
      have e : (g == ("ring" : Str)) = false := beq_eq_false_iff_ne.mpr q
      show (match g == ("ring" : Str) with | true => some y | false => none) = none
      rw [e]]
    exact True.intro⟩
def spInit (K : PySem.W.Frag) (C fI : Addr) : Sp := fun vs H Q _ => ∃ (e l t : Addr) (xs : List V) (sl : Array (Option Value)), vs = [.ref e, .ref l] /\ RgC K C fI /\ H e = some (pinO e ⟨.ref C, none, .fields (fx t), sl⟩) /\ H l = some (.lst xs) /\
  ∀ L dx : Addr, H L = none -> H dx = none -> L ≠ dx -> Q .non (upd (upd (upd H L (.lst xs)) e (pinO e (rgO C dx t sl))) dx (.xd [("ring", .ref L)]))
def tRaiseI (EX : Addr -> Hp -> Prop) (t : TA) : TS := fun _ σ H => t σ H fun vs H1 => ∃ (l : Addr) (xs : List V), vs = [.ref l] /\ H1 l = some (.lst xs) /\ ∀ L dx, H1 L = none -> H1 dx = none -> L ≠ dx -> EX dx (upd (upd H1 L (.lst xs)) dx (.xd [("ring", .ref L)]))
section
variable {X : Cx}
theorem qs_raiseI {k : Nat} {x : Str} {C fI : Addr} {fd : FuncData} {e : Expr} {es : List Expr} {t : TA} {np cpos pos : Pos} {EX : Addr -> Hp -> Prop} (F : FnOk X.prog X.w X.K X.mg X.base CX0 k fI fd ["self", "ring"] (spInit X.K C fI)) (hr : Room (k + 1) X.A) (c : RgC X.K C fI) (hb : Binds X.K fd ["self", "ring"] [])
    (hc : X.calm = true) (hex : X.ex = []) (hg : Gl X x) (hm : X.mg x = some (.ref C)) (ha : QA X (e :: es) t)
    (hx : ∀ pins σ H s a dx t sl, Inv X pins σ H s -> H a = some (pinO a (rgO C dx t sl)) -> X.s₀.heap.get? a = none -> EX dx (hid H a) -> X.xe (.ref a) s)
    (hd : (x == ("__debug__" : Str)) = false := by decide) (hst : starEach (e :: es) X.env = (false, eval e X.env) :: starEach es X.env := by rfl) (hpl : (backTo cpos (starEach es X.env)).any (·.1) = false := by rfl) :
    QS X (.Raise (some (.Call (.Name x np) (e :: es) [] cpos)) none pos) (tRaiseI EX t) := ⟨by
  intro pins s σ H D I h
  refine RaiseI (K := X.K) (C := C) (fI := fI) c.ex c.ini c.fn (I.ok.hd hc) (by rw [hst]; show (false || (backTo cpos (starEach es X.env)).any (·.1)) = false; rw [hpl]; rfl) (ld_glob I hg hm ⟨rfl, ?_⟩ hd)
  have hA := ha.h cpos pins s σ H _ I h
  rw [hst] at hA ⊢
  refine Calls.evalArgs_plain (thn hA fun us s1 ⟨vs, H1, I1, r, l, xs, ev, hl, q⟩ => ⟨rfl, ?_, I1.kIn, fun h' ea t kp nw at_ => ?_⟩)
  · rw [<- r.length, ev]
    exact fits2 (by show 1 <= 100000; decide)
  subst ev
  obtain ⟨u, rfl, ru⟩ := vals1 r
  cases ru
  obtain ⟨n1, n2, n3, n4, n5⟩ := I1.news hex nw
  have I2 : Inv X pins σ (upd H1 ea (pinO ea (newExc C t))) { s1 with heap := h' } := (I1.kept (t' := s1.toks) kp).track n1 n2 (pin_ok at_) n3 n4 n5
  have nel : l ≠ ea := fun z => by rw [z, n1] at hl; cases hl
  have hbb := hb { s1 with heap := h' } [.ref ea, .ref l] I2.kIn rfl
  rw [List.append_nil] at hbb
  refine codeAny_mono (F.run _ X.stack { s1 with heap := h' } _ ⟨[.ref ea, .ref l], []⟩ [.ref ea, .ref l] [.ref ea, .ref l] (fun v H3 => v = .non /\ ∃ L dx, H1 L = none /\ H1 dx = none /\ L ≠ dx /\ L ≠ ea /\ dx ≠ ea /\ H3 = upd (upd (upd (upd H1 ea (pinO ea (newExc C t))) L (.lst xs)) ea (pinO ea (rgO C dx t #[]))) dx (.xd [("ring", .ref L)])) (fun _ _ _ => False) (hr.make C [.ref l] []) (I2.env0.make C [.ref l] []) hbb (.cons rfl (.cons rfl .nil))
    ⟨ea, l, t, xs, #[], rfl, c, upd_same, by rw [upd_ne nel]; exact hl, fun L dx f1 f2 nLd => ?_⟩) fun res s' hq => ?_
  · have g1 : L ≠ ea := fun z => by rw [z, upd_same] at f1; cases f1
    have g2 : dx ≠ ea := fun z => by rw [z, upd_same] at f2; cases f2
    rw [upd_ne g1] at f1
    rw [upd_ne g2] at f2
    exact ⟨rfl, L, dx, f1, f2, nLd, g1, g2, rfl⟩
  · cases res with
    | error ev => exact False.elim hq
    | ok flw =>
      cases flw with
      | next => exact False.elim hq
      | brk => exact False.elim hq
      | cont => exact False.elim hq
      | ret u =>
        obtain ⟨v, H3, I3, r3, rfl, L, dx, f1, f2, nLd, g1, g2, rfl⟩ := I2.after hq
        have h3 : (upd (upd (upd (upd H1 ea (pinO ea (newExc C t))) L (.lst xs)) ea (pinO ea (rgO C dx t #[]))) dx (.xd [("ring", .ref L)])) ea = some (pinO ea (rgO C dx t #[])) := by rw [upd_ne (Ne.symm g2), upd_same]
        refine ⟨by cases r3; rfl, t, some dx, #[], I3.kIn, pin_at I3.hok h3, hx pins σ _ s' ea dx t #[] I3 h3 (by
          cases z : X.s₀.heap.get? ea with
          | none => rfl
          | some o => exact absurd z (n2 o)) ?_⟩
        have e4 : hid (upd (upd (upd (upd H1 ea (pinO ea (newExc C t))) L (.lst xs)) ea (pinO ea (rgO C dx t #[]))) dx (.xd [("ring", .ref L)])) ea = upd (upd H1 L (.lst xs)) dx (.xd [("ring", .ref L)]) := by
          funext b
          by_cases b1 : b = ea
          · rw [b1, hid_self, upd_ne (Ne.symm g2), upd_ne (Ne.symm g1), n1]
          · rw [hid_ne b1]
            by_cases b2 : b = dx
            · rw [b2, upd_same, upd_same]
            · rw [upd_ne b2, upd_ne b1, upd_ne b2]
              by_cases b3 : b = L
              · rw [b3, upd_same, upd_same]
              · rw [upd_ne b3, upd_ne b1, upd_ne b3]
        rw [e4]
        exact q L dx f1 f2 nLd⟩
end
def CXr (P : Program) (w : World) : CXT := fun outer H s E e s' => ∃ a C H' dx, e = .ref a /\ XO P w outer H s (.ref C) a H' s' /\ TrD s'.heap a dx /\ E (.ref C) (some dx) H'
section
variable {P : Program} {w : World} {K : PySem.W.Frag} {mg : Str -> Option Value} {base : Heap} {N : List Str} {qual : Str} {scope : Scope} {f : Addr} {cd : Value} {A : Around} {outer : List Env} {s₀ : Shared} {H₀ : Hp} {E : XK}
theorem xe_raiseR {C : Addr} : ∀ pins σ H s a dx t sl, Inv (cxOf (CXr P w) P w K mg base N qual scope f cd A outer s₀ H₀ E) pins σ H s -> H a = some (pinO a (rgO C dx t sl)) -> s₀.heap.get? a = none -> E (.ref C) (some dx) (hid H a) ->
    (cxOf (CXr P w) P w K mg base N qual scope f cd A outer s₀ H₀ E).xe (.ref a) s := fun pins σ H s a dx t sl I ha hn q => by
  have hFF : s.heap.FunFrames base (envOfC qual scope s₀.heap.objs.size f cd :: outer) := I.stack
  exact wpAny_mono (both (det_leaving _ _) (Inv.raiseH (M := model P w) (E' := fun _ _ => False) I rfl rfl rfl ha hn) (leave_firstD (E := fun _ _ => False) (base := base) (dx := dx) I.ok.frames hFF rfl (pin_at I.hok ha) rfl rfl rfl)) (fun _ s'' x => ⟨a, C, _, dx, rfl, x.1, x.2, q⟩) fun _ _ z => z.1.elim
theorem pass_onR : Passes (CXr P w) (cxOf (CXr P w) P w K mg base N qual scope f cd A outer s₀ H₀ E) E := fun pins σ H s e s' I h => by
  obtain ⟨a, C, H', dx, rfl, x, tr, q⟩ := h
  obtain ⟨B, a0, fly, big⟩ := x.fly
  exact wpAny_mono (both (det_leaving _ _) (Inv.pass (M := model P w) (E' := fun _ _ => False) I rfl rfl rfl x) (leave_trD (E := fun _ _ => False) I.ok.frames fly.2.2.1 rfl tr)) (fun _ s'' y => ⟨a, C, H', dx, rfl, y.1, y.2, q⟩) fun _ _ z => z.1.elim
theorem Fun.okR {x qual : Str} {st : Stmt} {f : Addr} {fd : FuncData} {N ps : List Str} {k : Nat} {sp : Sp} (F : Fun K x qual st f fd) (S : FnScope N ps (defScope st)) (len : ∀ vs H Q E, sp vs H Q E -> vs.length = ps.length)
    (hbody : ∀ (cdv : Value) (A : Around) (outer : List Env) (s : Shared) (H : Hp) (vs : List V) (Q : VK) (E : XK), Room k (A.deeper (envOfC qual (defScope st) s.heap.objs.size f cdv)) -> sp vs H Q E ->
      ∃ t, QSs (cxOf (CXr P w) P w K mg base N qual (defScope st) f cdv A outer s H E) (defBody st) t /\ t { nx := fun _ H' => Q .non H', rt := Q } (start N vs) H) : FnOk P w K mg base (CXr P w) (k + 1) f fd ps sp := by
  obtain ⟨oc, od, kV, doc, pm, an, cdv, ct, osl, rfl, lk, hcd⟩ := F.ex
  refine fn_of lk hcd S len fun A outer s H vs Q E hr hsp => ?_
  obtain ⟨t, h, q⟩ := hbody cdv A outer s H vs Q E hr hsp
  exact ⟨t, h.h, q⟩
end
end L2
namespace L2
open PySem PySem.Spec PyProof.Rows
theorem excMatchesI {M : Model} {A : Around} {E : Value -> Shared -> Prop} {K : PySem.W.Frag} {h : Heap} {g : Array GenState} {d : Drawn} {t : Nat} {os : OsState} {e C D : Addr} {oe : Obj} {b : Bool} {Q : Bool -> Shared -> Prop} (X : K.In h) (hC : excInI K C = true) (hD : ExcC K D \/ excInI K D = true) (he : h.get? e = some oe) (hcls : oe.cls = .ref C) (hm : PySem.W.mroIn K C (.ref D) = some b) (hq : Q b ⟨h, g, d, t, os⟩) :
    wpAny M A (excMatches (.ref e) (.ref D)) Q E ⟨h, g, d, t, os⟩ := by
  obtain ⟨bm, N, nm, qn, bs, hdct, sn, sub, ab, col, dd, k0, k1, k2, k3, k5, oC, _, mroC⟩ := exc_objI X hC
  have cC : (Value.ref C :: bm).contains (.ref D) = b := mroC _ _ hm
  have nt := tc_notTuple
  have go : ∀ {bm' : List Value} {N' : Addr} {nm' qn' : Str} {bs' : List Value} {hdct' : Bool} {sn' : List Str} {sub' : List Value} {ab' : Bool} {col' : Option Bool} {dd' : Option Addr} {l0 l1 l2 l3 l5 : Option Value}, h.get? D = some (excClassObj nm' qn' D N' bs' bm' hdct' sn' sub' ab' col' dd' l0 l1 l2 l3 l5 "ValueError.__new__") -> OwnTail h vbm bm' -> wpAny M A (excMatches (.ref e) (.ref D)) Q E ⟨h, g, d, t, os⟩ := fun {bm' _ _ _ _ _ _ _ _ _ _ _ _ _ _ _} oD TD => by
    have cB : (Value.ref D :: bm').contains (.type "BaseException") = true := by
      rw [List.contains_cons, TD.hasType (X := "BaseException") (b := true) (by decide), Bool.or_true]
    unfold excMatches
    repeat (first | (with_reducible refine wpAny_loadPart_at he ?_; rw [hcls]) | with_reducible refine wpAny_loadPart_at oD ?_ | (with_reducible refine wpAny_isSubtype_exc oD ?_; rw [cB]) | (with_reducible refine wpAny_isSubtype_exc oC ?_; rw [cC]) | wp_step)
    all_goals (cases b <;> first | exact hq | (wp_walk; exact hq))
  rcases hD with hD | hD
  · obtain ⟨bm', N', nm', qn', bs', hdct', sn', sub', ab', col', dd', l0, l1, l2, l3, l5, mN', oD, _, _, TD, _⟩ := exc_obj X hD
    exact go oD TD
  · obtain ⟨bm', N', nm', qn', bs', hdct', sn', sub', ab', col', dd', l0, l1, l2, l3, l5, oD, TD, _⟩ := exc_objI X hD
    exact go oD TD
def RgAt (a C dx : Addr) (h : Heap) : Prop := ∃ o vs, h.get? a = some o /\ o.cls = .ref C /\ o.dict = some dx /\ o.data = .fields vs
def excR (a C dx : Addr) : HO := .ext (RgAt a C dx)
theorem excR_ok {P : Program} {w : World} {H : Hp} {h : Heap} {a C dx : Addr} (x : RgAt a C dx h) : ObjOk P w H h a (excR a C dx) := by
  refine ⟨x, let ⟨o, _, e, _⟩ := x; ⟨o, e⟩, fun h1 h2 ⟨o, vs, e1, e2, e3, e4⟩ st => ⟨o, vs, st o e1, e2, e3, e4⟩⟩
section
variable {X : Cx} {k : Nat} {f Dc : Addr} {fd : FuncData} {ps : List Str} {sp : Sp} {x dn n : Str} {i : Nat} {p cpos epos np hpos pos : Pos} {e : Expr} {es : List Expr} {t : TA} {ts : TS} {b0 : Stmt} {suite : List Stmt}
def tRing (K : PySem.W.Frag) (ta : TE) (f : Str) : TE := fun σ H Q => ta σ H fun x H1 => ∃ a C fI dx fs v, x = .ref a /\ f = "ring" /\ RgC K C fI /\ H1 a = some (excR a C dx) /\ H1 dx = some (.xd fs) /\ fs.lookup f = some v /\ Q v H1
theorem qe_ring {X : Cx} {e : Expr} {f : Str} {pos : Pos} {ta : TE} (he : QE X e ta) (hb : attributeBase e f X.env (eval e X.env) = eval e X.env := by rfl) : QE X (.Attribute e f pos) (tRing X.K ta f) := ⟨by
  intro pins s σ H Q I h
  refine attr_of hb (thn (he.h pins s σ H _ I h) fun u s1 ⟨x, H1, I1, rx, a, C, fI, dx, fs, v, ex, ef, c, ea, ed, l, q⟩ => ?_)
  subst ex ef
  obtain rfl : u = Value.ref a := rx
  obtain ⟨o, vs, ho, hoc, hod, hda⟩ : RgAt a C dx s1.heap := (I1.hok a _ ea).1
  obtain ⟨mA, hns, r⟩ : ObjOk X.prog X.w H1 s1.heap dx (.xd fs) := I1.hok dx _ ed
  obtain ⟨u, hu, ru⟩ := RelO.some_of (v := v) (o := mA "ring") (by rw [<- l]; exact r "ring")
  obtain ⟨od, hdx, hl⟩ := lookIn_ns hns
  have J : PySem.W.InstAt s1.heap a o C (some od) := ⟨ho, hoc, by unfold PySem.W.notCls; rw [hda], by rw [hod]; exact hdx⟩
  exact getx I1.kIn J c.ga c.gt c.mb (PySem.W.findObj_own c.hd c.rg rfl (by rw [hl, hu])) (handed_of ru) fun tk => ⟨v, H1, I1.tok tk, ru, q⟩⟩
end
end L2
namespace L2
open PySem PySem.Spec PySem.Calls PyProof.Rows PySem.W Builtin Builtin.ObjectAttr Builtin.Getset_descriptor
section
variable {prog : Program} {w : World} {A : Around} {E : Value -> Shared -> Prop} {K : Frag} {a C fI : Addr} {s : Shared}
theorem rg_entry {tk : Tok} {Q : Fin -> Shared -> Prop} (X : K.In s.heap) (I : ExcAt a C s.heap) (c : RgC K C fI) (hq : Q (.done (.ret (.ref C))) s) : wpAny (model prog w) A (Builtin.«object.__getattribute__» ⟨[.ref a, .str "__class__" tk], []⟩) Q E s := by
  obtain ⟨hp, g, dr, t, os⟩ := s
  have T0 := excAt_ty (M := model prog w) I
  have T1 := looks_findIn (M := model prog w) X c.ca
  have y5 := F.typeOf_object_class
  have y6 := F.slot_gs_get.lookup
  have y7 := F.slot_gs_set.lookup
  have yT : (⟨hp, g, dr, t, os⟩ : Shared).TypeIs (.builtin "object.__class__") "getset_descriptor" := F.typeOf_object_class
  repeat (any_goals (first | assumption | with_reducible refine T0.at ?_ | with_reducible refine T1.at ?_ | wp_step))
  refine exc_class_get X I c.mo ?_
  repeat (any_goals (first | assumption | wp_step))
theorem rg_ca {Q : Option Value -> Shared -> Prop} (X : K.In s.heap) (I : ExcAt a C s.heap) (c : RgC K C fI) (hq : Q (some (.ref C)) { s with toks := s.toks + 1 }) : wpAny (model prog w) A (getAttr? (.ref a) "__class__") Q E s := by
  obtain ⟨hp, g, dr, t, os⟩ := s
  have T0 := excAt_ty (M := model prog w) I
  have T1 := looks_findIn (M := model prog w) X c.ga
  have T2 := looks_findIn (M := model prog w) X c.gt
  have y3 := PySem.F.excAttr_ValueError.ga.bind (.ref a)
  have y2 : (Value.builtin "BaseException.__getattribute__" == Value.builtin "object.__getattribute__") = false := by decide +kernel
  have y1 : (onTheHeap (Value.ref C) && Value.builtin "BaseException.__getattribute__" == Value.builtin "object.__getattribute__") = false := by rw [y2]; rfl
  unfold getAttr? getAttrBy?
  repeat (any_goals (first | assumption | with_reducible refine T0.at ?_ | with_reducible refine T1.at ?_ | with_reducible refine T2.at ?_ | wp_step))
  refine codeAny_call_builtin PySem.F.excAttr_ValueError.ga.plain F.entry_bexc_ga (exc_check_ga X I c.mb (rg_entry X I c ?_))
  exact handed_on rfl (wpAny_pure hq)
theorem kitx_rg (c : RgC K C fI) : KitX K (.ref a) (.ref C) (ExcAt a C) where
  ty := fun _ _ _ I => excAt_ty I
  it := fun _ h X _ => by
    obtain ⟨bm, N, nm, qn, bs, hdct, sn, sub, ab, col, dd, k0, k1, k2, k3, k5, oC, _⟩ := exc_objI X c.ex
    intro A' Q' E' s' k q
    unfold isType loadHead
    exact wpAny_bind (wpAny_loadPart (k _ _ oC) (wpAny_pure q))
  ne := fun h tp dd its n sl X htp => by
    obtain ⟨bm, N, nm, qn, bs, hdct, sn, sub, ab, col, dd', k0, k1, k2, k3, k5, oC, _⟩ := exc_objI X c.ex
    refine Bool.eq_false_iff.mpr fun q => ?_
    have e : C = tp := Value.ref.inj (beq_iff_eq.mp q)
    subst e
    have z := congrArg (fun o : Option Obj => o.map (·.cls)) (oC.symm.trans htp)
    simp [excClassObj] at z
  ca := fun X I k => rg_ca X I c k
end
section
variable {X : Cx}
theorem call_isR : CallR X (.builtin "isinstance") (fun xs H Q => ∃ (a C fI dx : Addr) (v : V) (b : Bool), xs = [.ref a, v] /\ H a = some (excR a C dx) /\ RgC X.K C fI /\
    ((∃ D, v = .ref D /\ kitOne X.K (.ref C) (.ref D) = some b) \/ (∃ T, v = .ty T /\ kitOne X.K (.ref C) (.type T) = some b) \/ (∃ (p : Addr) (ds : List Addr), v = .ref p /\ H p = some (.tup (ds.map V.ref)) /\ kitAny X.K (.ref C) (ds.map Value.ref) = some b)) /\ Q (.bl b) H) := by
  intro pins s σ H xs us Q I r h
  obtain ⟨a, C, fI, dx, v, b, rfl, ha, c, alt, q⟩ := h
  obtain ⟨u, u', rfl, ru, rv⟩ := vals2 r
  cases ru
  have at_ : ExcAt a C s.heap := let ⟨o, _, e1, e2, _⟩ := (I.hok a _ ha).1; ⟨o, e1, e2⟩
  have fin : ∀ tk, EP X pins σ Q (.bool b) { s with toks := tk } := fun tk => ⟨.bl b, H, I.tok tk, rfl, q⟩
  rcases alt with ⟨D, rfl, e⟩ | ⟨T, rfl, e⟩ | ⟨p, ds, rfl, hp, e⟩
  · cases rv
    exact kia_one (kitx_rg c) I.kIn at_ e (fun z => nomatch z) fin
  · cases rv
    exact kia_one (kitx_rg c) I.kIn at_ e (fun z => nomatch z) fin
  · cases rv
    obtain ⟨its, r1, ⟨⟨cls, dd, data, sl⟩, ho, hc, n, hd⟩, _⟩ := I.tuple (.of hp)
    simp only at hc hd
    subst hc hd
    rw [vals_refs r1] at ho
    exact kia_tup (kitx_rg c) I.kIn at_ ho e (fun z => nomatch z) fin
end
end L2
namespace L2
open PySem PySem.Spec PyProof.Rows
def tTryXR (K : PySem.W.Frag) (Dc : Addr) (i : Nat) (sp : Sp) (t : TA) (ts : TS) : TS := fun D σ H => t σ H fun vs H1 => sp vs H1 (fun _ H2 => D.nx σ H2) fun cls od H2 => ∃ C dx, cls = .ref C /\ od = some dx /\ excInI K C = true /\ PySem.W.mroIn K C (.ref Dc) = some true /\
  ∀ a, H2 a = none -> ts { nx := fun σ' H' => D.nx (σ'.set i none) H', rt := D.rt, bk := fun _ _ => False, ct := fun _ _ => False } (σ.set i (some (.ref a))) (upd H2 a (excR a C dx))
section
variable {X : Cx} {k : Nat} {f Dc : Addr} {fd : FuncData} {ps : List Str} {sp : Sp} {x dn n : Str} {i : Nat} {p cpos epos np hpos pos : Pos} {e : Expr} {es : List Expr} {t : TA} {ts : TS} {b0 : Stmt} {suite : List Stmt}
theorem qs_tryXR (F : FnOk X.prog X.w X.K X.mg X.base (CXr X.prog X.w) k f fd ps sp) (hr : Room k X.A) (hg : Gl X x) (hm : X.mg x = some (.ref f)) (hk : PySem.W.keepIn X.K (.ref f) = true) (hb : Binds X.K fd ps [])
    (ha : QA X.nox (e :: es) t) (hgD : Gl X dn) (hmD : X.mg dn = some (.ref Dc)) (hD : ExcC X.K Dc \/ excInI X.K Dc = true) (hN : X.N.Nodup) (hi : X.N[i]? = some n) (hn : X.env.scope.names.lookup n = some .local) (hstk : X.stack = X.env :: X.outer) (hfr : X.env.frame = some X.env.locals) (hex : X.ex = [])
    (hs : ∀ a, QSs (X.hand a) (b0 :: suite) ts)
    (hdb : (x == ("__debug__" : Str)) = false := by decide) (hdd : (dn == ("__debug__" : Str)) = false := by decide) (he : starEach (e :: es) X.env = (false, eval e X.env) :: starEach es X.env := by rfl) (hpl : (backTo cpos (starEach es X.env)).any (·.1) = false := by rfl)
    (hsw : swapsWith (.Call (.Name x p) (e :: es) [] cpos) none epos.line X.env = pure false := by rfl) :
    QS X (.Try [.Expr (.Call (.Name x p) (e :: es) [] cpos) epos] [.ExceptHandler (some (.Name dn np)) (some n) (b0 :: suite) hpos] [] [] pos) (tTryXR X.K Dc i sp t ts) := ⟨by
  intro pins s σ H D I h
  refine wpAny_Try_except (wpAny_execs_cons (wpAny_Expr_any (wpAny_Call_Name_kw (ld_glob I hg hm ?_ hdb)) I.quiet hsw))
  refine PySem.W.callWith_K (h₀ := X.base) I.ok.mod.kin hk (wpAny_mono (ha.h cpos pins s σ H _ (I.wish _) h) (fun us s1 ⟨vs, H1, I1n, r, q⟩ => ⟨I1n.kIn, ?_⟩) fun _ _ z => z.elim) he hpl
  have I1 : Inv X pins σ H1 s1 := I1n.unwish
  have hl : (us ++ []).length = ps.length := by rw [List.append_nil, <- r.length]; exact F.len _ _ _ _ q
  have hbb := hb s1 us I1.kIn hl
  rw [List.append_nil] at hbb
  refine wpAny_call (codeAny_mono (F.run X.A X.stack s1 H1 ⟨us, []⟩ us vs _ _ hr I1.env0 hbb r q) fun res s' hq => ?_)
  cases res with
  | ok fl =>
    cases fl with
    | ret u =>
      obtain ⟨v, H2, I2, _, q2⟩ := I1.after hq
      exact wpAny_execs_nil (wpAny_execs_nil ⟨σ, H2, I2, q2⟩)
    | next => exact False.elim hq
    | brk => exact False.elim hq
    | cont => exact False.elim hq
  | error ev =>
    obtain ⟨a, C', H2, dx', rfl, x, tr, C, dx, ec, ed, hC, hmro, q2⟩ := hq
    cases ec
    cases ed
    obtain ⟨B, a0, fly, big⟩ := x.fly
    have hfrm : X.A.frames = some (X.env :: X.outer) := by rw [<- hstk]; exact I.ok.frames
    rw [hstk] at fly
    have keep : ∀ h6 : Heap, B.StaysIn h6 -> s'.heap.UpToSlots h6 -> ∀ tk : Nat, Inv X pins σ H2 { s' with heap := h6, toks := tk } := fun h6 st up tk => by
      have slots : ∀ b o, s'.heap.get? b = some o -> b ∈ frs X.stack -> ∃ sl, h6.get? b = some { o with slots := sl } := fun b o e hb => by
        rw [hstk] at hb
        obtain ⟨_, o', e', nf⟩ := fly.2.2.1.mem hb
        rw [e] at e'
        cases e'
        exact up b o e nf
      have hfree' : ∀ b ∈ frs X.stack, H2 b = none := fun b hb => by
        obtain ⟨_, o, e, _⟩ := I1.stack.mem hb
        exact x.un.free b o e (I1.stkFree b hb) (by simp)
      refine I1.call' (ch := []) x.os (x.un.fly (fun b hb => .inl hb) st (fun b o e n hb => big b o hb n e) slots fun b hb => hb) (x.hok.fly hfree' st (fun b o e n hb => big b o (.inl hb) n e)) x.bare (fun b z => absurd z (by simp))
    refine looksD hfrm hfr fly tr fun h4 held4 sm4 tr4 => landsD held4 tr4 fun h5 fl5 sm5 tr5 => ?_
    have I5 := keep h5 fl5.1 (sm4.trans sm5) s'.toks
    obtain ⟨oe, hoe, hoc⟩ := fl5.there
    refine wpAny_handleBy_cons (codeAny_handlers_test (ld_glob (I5.hand a) hgD hmD (excMatchesI (K := X.K) I5.kIn hC hD hoe hoc hmro ?_) hdd)) (by intro z; cases z)
    refine codeAny_handlers_suite_as (againD fl5 tr5 fun h6 fl6 sm6 tr6 => ?_)
    have I6 := keep h6 fl6.1 ((sm4.trans sm5).trans sm6) s'.toks
    obtain ⟨oe6, hoe6, hoc6⟩ := fl6.there
    obtain ⟨n1, n2, n3, n4, n5⟩ := I1.news hex x.new
    have at6 : RgAt a C' dx' h6 := by
      obtain ⟨od, vs, _, _, _, e1, e2, _, e3, _⟩ := tr6
      rw [hoe6] at e1
      cases e1
      exact ⟨oe6, vs, hoe6, hoc6, e3, e2⟩
    have I7 : Inv X pins σ (upd H2 a (excR a C' dx')) { s' with heap := h6 } := I6.track x.free n2 (excR_ok at6) n3 n4 n5
    refine store_ok (X := X.hand a) (v := .ref a) (I7.hand a) hN hi (.inl hn) rfl (fun s7 I8 => ?_) (.inr hn)
    refine wpAny_mono ((hs a).h pins s7 _ _ _ I8 (q2 a x.free)) (fun fw s8 hfw => ?_) fun _ _ z => z.elim
    cases fw with
    | next =>
      obtain ⟨σ', H9, I9, q9⟩ := hfw
      have I9' := I9.unhand I.ok
      obtain ⟨m, hns, hloc⟩ := I9'.loc
      refine wpAny_nameGoes_keeps hn hns (by rw [I.ok.kind]; rfl) fun h10 v hn10 hs10 => ?_
      exact ⟨σ'.set i none, H9, I9'.gone hN hi hns hloc hn10 hs10, q9⟩
    | ret u =>
      obtain ⟨v, σ', H9, I9, r9, q9⟩ := hfw
      have I9' := I9.unhand I.ok
      obtain ⟨m, hns, hloc⟩ := I9'.loc
      refine wpAny_nameGoes_keeps hn hns (by rw [I.ok.kind]; rfl) fun h10 v' hn10 hs10 => ?_
      exact ⟨v, σ'.set i none, H9, I9'.gone hN hi hns hloc hn10 hs10, r9, q9⟩
    | brk =>
      obtain ⟨_, _, _, z⟩ := hfw
      exact z.elim
    | cont =>
      obtain ⟨_, _, _, z⟩ := hfw
      exact z.elim⟩
end
def tTryXA (K : PySem.W.Frag) (Dc : Addr) (i j : Nat) (sp : Sp) (t : TA) (ts : TS) : TS := fun D σ H => t σ H fun vs H1 => sp vs H1 (fun v H2 => D.nx (σ.set j (some v)) H2) fun cls od H2 => ∃ C dx, cls = .ref C /\ od = some dx /\ excInI K C = true /\ PySem.W.mroIn K C (.ref Dc) = some true /\
  ∀ a, H2 a = none -> ts { nx := fun σ' H' => D.nx (σ'.set i none) H', rt := fun _ _ => False, bk := fun _ _ => False, ct := fun _ _ => False } (σ.set i (some (.ref a))) (upd H2 a (excR a C dx))
section
variable {X : Cx} {k : Nat} {f Dc : Addr} {fd : FuncData} {ps : List Str} {sp : Sp} {x dn n y : Str} {i j : Nat} {p cpos epos np hpos pos yp : Pos} {e : Expr} {es : List Expr} {t : TA} {ts : TS} {b0 : Stmt} {suite : List Stmt}
theorem qs_tryXA (F : FnOk X.prog X.w X.K X.mg X.base (CXr X.prog X.w) k f fd ps sp) (hr : Room k X.A) (hg : Gl X x) (hm : X.mg x = some (.ref f)) (hk : PySem.W.keepIn X.K (.ref f) = true) (hb : Binds X.K fd ps [])
    (ha : QA X.nox (e :: es) t) (hgD : Gl X dn) (hmD : X.mg dn = some (.ref Dc)) (hD : ExcC X.K Dc \/ excInI X.K Dc = true) (hN : X.N.Nodup) (hi : X.N[i]? = some n) (hn : X.env.scope.names.lookup n = some .local) (hstk : X.stack = X.env :: X.outer) (hfr : X.env.frame = some X.env.locals) (hex : X.ex = [])
    (hj : X.N[j]? = some y) (hy : X.env.scope.names.lookup y = some .local) (hs : ∀ a, QSs (X.hand a) (b0 :: suite) ts)
    (hdb : (x == ("__debug__" : Str)) = false := by decide) (hdd : (dn == ("__debug__" : Str)) = false := by decide) (he : starEach (e :: es) X.env = (false, eval e X.env) :: starEach es X.env := by rfl) (hpl : (backTo cpos (starEach es X.env)).any (·.1) = false := by rfl)
    (hsw : swapsWith (.Call (.Name x p) (e :: es) [] cpos) (some (.Name y yp)) epos.line X.env = pure false := by rfl) :
    QS X (.Try [.Assign [.Name y yp] (.Call (.Name x p) (e :: es) [] cpos) epos] [.ExceptHandler (some (.Name dn np)) (some n) (b0 :: suite) hpos] [] [] pos) (tTryXA X.K Dc i j sp t ts) := ⟨by
  intro pins s σ H D I h
  refine wpAny_Try_except (wpAny_execs_cons (wpAny_Assign_Name (wpAny_Call_Name_kw (ld_glob I hg hm ?_ hdb)) hsw))
  refine PySem.W.callWith_K (h₀ := X.base) I.ok.mod.kin hk (wpAny_mono (ha.h cpos pins s σ H _ (I.wish _) h) (fun us s1 ⟨vs, H1, I1n, r, q⟩ => ⟨I1n.kIn, ?_⟩) fun _ _ z => z.elim) he hpl
  have I1 : Inv X pins σ H1 s1 := I1n.unwish
  have hl : (us ++ []).length = ps.length := by rw [List.append_nil, <- r.length]; exact F.len _ _ _ _ q
  have hbb := hb s1 us I1.kIn hl
  rw [List.append_nil] at hbb
  refine wpAny_call (codeAny_mono (F.run X.A X.stack s1 H1 ⟨us, []⟩ us vs _ _ hr I1.env0 hbb r q) fun res s' hq => ?_)
  cases res with
  | ok fl =>
    cases fl with
    | ret u =>
      obtain ⟨v, H2, I2, r2, q2⟩ := I1.after hq
      exact store_ok I2 hN hj (.inl hy) r2 (fun s2 I3 => wpAny_execs_nil (wpAny_execs_nil ⟨_, H2, I3, q2⟩)) (.inr hy)
    | next => exact False.elim hq
    | brk => exact False.elim hq
    | cont => exact False.elim hq
  | error ev =>
    obtain ⟨a, C', H2, dx', rfl, x, tr, C, dx, ec, ed, hC, hmro, q2⟩ := hq
    cases ec
    cases ed
    obtain ⟨B, a0, fly, big⟩ := x.fly
    have hfrm : X.A.frames = some (X.env :: X.outer) := by rw [<- hstk]; exact I.ok.frames
    rw [hstk] at fly
    have keep : ∀ h6 : Heap, B.StaysIn h6 -> s'.heap.UpToSlots h6 -> ∀ tk : Nat, Inv X pins σ H2 { s' with heap := h6, toks := tk } := fun h6 st up tk => by
      have slots : ∀ b o, s'.heap.get? b = some o -> b ∈ frs X.stack -> ∃ sl, h6.get? b = some { o with slots := sl } := fun b o e hb => by
        rw [hstk] at hb
        obtain ⟨_, o', e', nf⟩ := fly.2.2.1.mem hb
        rw [e] at e'
        cases e'
        exact up b o e nf
      have hfree' : ∀ b ∈ frs X.stack, H2 b = none := fun b hb => by
        obtain ⟨_, o, e, _⟩ := I1.stack.mem hb
        exact x.un.free b o e (I1.stkFree b hb) (by simp)
      refine I1.call' (ch := []) x.os (x.un.fly (fun b hb => .inl hb) st (fun b o e n hb => big b o hb n e) slots fun b hb => hb) (x.hok.fly hfree' st (fun b o e n hb => big b o (.inl hb) n e)) x.bare (fun b z => absurd z (by simp))
    refine looksD hfrm hfr fly tr fun h4 held4 sm4 tr4 => landsD held4 tr4 fun h5 fl5 sm5 tr5 => ?_
    have I5 := keep h5 fl5.1 (sm4.trans sm5) s'.toks
    obtain ⟨oe, hoe, hoc⟩ := fl5.there
    refine wpAny_handleBy_cons (codeAny_handlers_test (ld_glob (I5.hand a) hgD hmD (excMatchesI (K := X.K) I5.kIn hC hD hoe hoc hmro ?_) hdd)) (by intro z; cases z)
    refine codeAny_handlers_suite_as (againD fl5 tr5 fun h6 fl6 sm6 tr6 => ?_)
    have I6 := keep h6 fl6.1 ((sm4.trans sm5).trans sm6) s'.toks
    obtain ⟨oe6, hoe6, hoc6⟩ := fl6.there
    obtain ⟨n1, n2, n3, n4, n5⟩ := I1.news hex x.new
    have at6 : RgAt a C' dx' h6 := by
      obtain ⟨od, vs, _, _, _, e1, e2, _, e3, _⟩ := tr6
      rw [hoe6] at e1
      cases e1
      exact ⟨oe6, vs, hoe6, hoc6, e3, e2⟩
    have I7 : Inv X pins σ (upd H2 a (excR a C' dx')) { s' with heap := h6 } := I6.track x.free n2 (excR_ok at6) n3 n4 n5
    refine store_ok (X := X.hand a) (v := .ref a) (I7.hand a) hN hi (.inl hn) rfl (fun s7 I8 => ?_) (.inr hn)
    refine wpAny_mono ((hs a).h pins s7 _ _ _ I8 (q2 a x.free)) (fun fw s8 hfw => ?_) fun _ _ z => z.elim
    cases fw with
    | next =>
      obtain ⟨σ', H9, I9, q9⟩ := hfw
      have I9' := I9.unhand I.ok
      obtain ⟨m, hns, hloc⟩ := I9'.loc
      refine wpAny_nameGoes_keeps hn hns (by rw [I.ok.kind]; rfl) fun h10 v hn10 hs10 => ?_
      exact ⟨σ'.set i none, H9, I9'.gone hN hi hns hloc hn10 hs10, q9⟩
    | ret u =>
      obtain ⟨_, _, _, _, _, z⟩ := hfw
      exact z.elim
    | brk =>
      obtain ⟨_, _, _, z⟩ := hfw
      exact z.elim
    | cont =>
      obtain ⟨_, _, _, z⟩ := hfw
      exact z.elim⟩
end
section
def tRingP (K : PySem.W.Frag) (ta : TE) (f : Str) : TE := fun σ H Q => ta σ H fun x H1 => ∃ a C fI dx fs v, x = .ref a /\ f = "ring" /\ RgC K C fI /\ (∃ t sl, H1 a = some (pinO a (rgO C dx t sl))) /\ H1 dx = some (.xd fs) /\ fs.lookup f = some v /\ Q v H1
theorem qe_ringP {X : Cx} {e : Expr} {f : Str} {pos : Pos} {ta : TE} (he : QE X e ta) (hb : attributeBase e f X.env (eval e X.env) = eval e X.env := by rfl) : QE X (.Attribute e f pos) (tRingP X.K ta f) := ⟨by
  intro pins s σ H Q I h
  refine attr_of hb (thn (he.h pins s σ H _ I h) fun u s1 ⟨x, H1, I1, rx, a, C, fI, dx, fs, v, ex, ef, c, ⟨tt, sl, ea⟩, ed, l, q⟩ => ?_)
  subst ex ef
  obtain rfl : u = Value.ref a := rx
  obtain ⟨o, vs, ho, hoc, hod, hda⟩ : RgAt a C dx s1.heap := ⟨_, _, pin_at I1.hok ea, rfl, rfl, rfl⟩
  obtain ⟨mA, hns, r⟩ : ObjOk X.prog X.w H1 s1.heap dx (.xd fs) := I1.hok dx _ ed
  obtain ⟨u, hu, ru⟩ := RelO.some_of (v := v) (o := mA "ring") (by rw [<- l]; exact r "ring")
  obtain ⟨od, hdx, hl⟩ := lookIn_ns hns
  have J : PySem.W.InstAt s1.heap a o C (some od) := ⟨ho, hoc, by unfold PySem.W.notCls; rw [hda], by rw [hod]; exact hdx⟩
  exact getx I1.kIn J c.ga c.gt c.mb (PySem.W.findObj_own c.hd c.rg rfl (by rw [hl, hu])) (handed_of ru) fun tk => ⟨v, H1, I1.tok tk, ru, q⟩⟩
end
end L2
namespace L2
open PySem PySem.Spec PyProof.Rows
theorem CallI {prog : Program} {w : World} {A : Around} {E : Value -> Shared -> Prop} {K : PySem.W.Frag} {s : Shared} {env : Env} {C fI : Addr} {x : Str} {np cpos : Pos} {args : List Expr} {Q : Value -> Shared -> Prop} (hC : excInI K C = true) (hi : PySem.W.findIn K (.ref C) "__init__" = some (some (.ref fI))) (hf : PySem.W.typeIn K (.ref fI) = some (.type "function"))
    (hpln : (backTo cpos (starEach args env)).any (·.1) = false)
    (h : wpAny (model prog w) A (eval (.Name x np) env) (fun f sx => f = .ref C /\ wpAny (model prog w) A (evalArgs (.ref C) true (backTo cpos (starEach args env)) []) (fun a sy => a.kw = [] /\ a.pos.length <= sizeLine /\ K.In sy.heap /\
      ∀ h' e t, (∀ b o, sy.heap.get? b = some o -> h'.get? b = some o) -> sy.heap.get? e = none -> h'.get? e = some (newExc C t) ->
        codeAny (model prog w) (A.under (.builtin "type.__call__" ⟨.ref C :: a.pos, []⟩)) (.call (.ref fI) ⟨.ref e :: a.pos, []⟩) (fun r s' => r = .ok (.ret .none) /\ Q (.ref e) s') { sy with heap := h' }) E sx) E s) :
    wpAny (model prog w) A (eval (.Call (.Name x np) args [] cpos) env) Q E s := by
  refine wpAny_Call_ofName (wpAny_mono h (fun f sx hx => ?_) fun _ _ x => x)
  obtain ⟨rfl, hx⟩ := hx
  unfold callWith
  refine wpAny_bind (wpAny_holding (wpAny_mono hx (fun a sy hy => wpAny_bind (wpAny_standAt ?_)) fun _ _ x => x))
  obtain ⟨apos, akw⟩ := a
  obtain ⟨hkw, hle, X, hy⟩ := hy
  obtain rfl : akw = [] := hkw
  simp only [hpln]
  obtain ⟨bm, N, nm, qn, bs, hdct, sn, sub, ab, col, dd, k0, k1, k2, k3, k5, oC, T, hm⟩ := exc_objI X hC
  obtain ⟨hh0, g, d, tk, os⟩ := sy
  refine wpAny_bind (wpAny_keeperOf_exc oC ?_)
  refine wpAny_bind (callI (K := K) X hC hi hf hle fun h' e t k1 k2 k3 => codeAny_mono (hy h' e t k1 k2 k3) fun r s' z => ⟨z.1, ?_⟩)
  exact wpAny_bind (wpAny_holding (wpAny_point (wpAny_pure z.2)))
def tNewI (C : Addr) (t : TA) : TE := fun σ H Q => t σ H fun vs H1 => ∃ (l : Addr) (xs : List V), vs = [.ref l] /\ H1 l = some (.lst xs) /\ ∀ (a L dx tt : Addr), H1 a = none -> H1 L = none -> H1 dx = none -> L ≠ dx -> L ≠ a -> dx ≠ a -> Q (.ref a) (upd (upd (upd (upd H1 a (pinO a (newExc C tt))) L (.lst xs)) a (pinO a (rgO C dx tt #[]))) dx (.xd [("ring", .ref L)]))
section
variable {X : Cx}
theorem qe_newI {k : Nat} {x : Str} {C fI : Addr} {fd : FuncData} {e : Expr} {es : List Expr} {t : TA} {np cpos : Pos} (F : FnOk X.prog X.w X.K X.mg X.base CX0 k fI fd ["self", "ring"] (spInit X.K C fI)) (hr : Room (k + 1) X.A) (c : RgC X.K C fI) (hb : Binds X.K fd ["self", "ring"] [])
    (hex : X.ex = []) (hg : Gl X x) (hm : X.mg x = some (.ref C)) (ha : QA X (e :: es) t)
    (hd : (x == ("__debug__" : Str)) = false := by decide) (hst : starEach (e :: es) X.env = (false, eval e X.env) :: starEach es X.env := by rfl) (hpl : (backTo cpos (starEach es X.env)).any (·.1) = false := by rfl) :
    QE X (.Call (.Name x np) (e :: es) [] cpos) (tNewI C t) := ⟨by
  intro pins s σ H Q I h
  refine CallI (K := X.K) (C := C) (fI := fI) c.ex c.ini c.fn (by rw [hst]; show (false || (backTo cpos (starEach es X.env)).any (·.1)) = false; rw [hpl]; rfl) (ld_glob I hg hm ⟨rfl, ?_⟩ hd)
  have hA := ha.h cpos pins s σ H _ I h
  rw [hst] at hA ⊢
  refine Calls.evalArgs_plain (thn hA fun us s1 ⟨vs, H1, I1, r, l, xs, ev, hl, q⟩ => ⟨rfl, ?_, I1.kIn, fun h' ea t kp nw at_ => ?_⟩)
  · rw [<- r.length, ev]
    exact fits2 (by show 1 <= 100000; decide)
  subst ev
  obtain ⟨u, rfl, ru⟩ := vals1 r
  cases ru
  obtain ⟨n1, n2, n3, n4, n5⟩ := I1.news hex nw
  have I2 : Inv X pins σ (upd H1 ea (pinO ea (newExc C t))) { s1 with heap := h' } := (I1.kept (t' := s1.toks) kp).track n1 n2 (pin_ok at_) n3 n4 n5
  have nel : l ≠ ea := fun z => by rw [z, n1] at hl; cases hl
  have hbb := hb { s1 with heap := h' } [.ref ea, .ref l] I2.kIn rfl
  rw [List.append_nil] at hbb
  refine codeAny_mono (F.run _ X.stack { s1 with heap := h' } _ ⟨[.ref ea, .ref l], []⟩ [.ref ea, .ref l] [.ref ea, .ref l] (fun v H3 => v = .non /\ ∃ L dx, H1 L = none /\ H1 dx = none /\ L ≠ dx /\ L ≠ ea /\ dx ≠ ea /\ H3 = upd (upd (upd (upd H1 ea (pinO ea (newExc C t))) L (.lst xs)) ea (pinO ea (rgO C dx t #[]))) dx (.xd [("ring", .ref L)])) (fun _ _ _ => False) (hr.make C [.ref l] []) (I2.env0.make C [.ref l] []) hbb (.cons rfl (.cons rfl .nil))
    ⟨ea, l, t, xs, #[], rfl, c, upd_same, by rw [upd_ne nel]; exact hl, fun L dx f1 f2 nLd => ?_⟩) fun res s' hq => ?_
  · have g1 : L ≠ ea := fun z => by rw [z, upd_same] at f1; cases f1
    have g2 : dx ≠ ea := fun z => by rw [z, upd_same] at f2; cases f2
    rw [upd_ne g1] at f1
    rw [upd_ne g2] at f2
    exact ⟨rfl, L, dx, f1, f2, nLd, g1, g2, rfl⟩
  · cases res with
    | error ev => exact False.elim hq
    | ok flw =>
      cases flw with
      | next => exact False.elim hq
      | brk => exact False.elim hq
      | cont => exact False.elim hq
      | ret u =>
        obtain ⟨v, H3, I3, r3, rfl, L, dx, f1, f2, nLd, g1, g2, rfl⟩ := I2.after hq
        exact ⟨by cases r3; rfl, .ref ea, _, I3, rfl, q ea L dx t n1 f1 f2 nLd g1 g2⟩⟩
end
end L2
namespace L2
open PySem PySem.Spec PyProof.Rows
section
variable {X : Cx}
theorem call_lenN : CallR X (.builtin "len") (fun xs H Q => ∃ a ks, xs = [.ref a] /\ DN X.prog X.w H a ks /\ Q (.int ks.length) H) := by
  intro pins s σ H xs us Q I r h
  obtain ⟨a, ks, rfl, d, q⟩ := h
  obtain ⟨u, rfl, ru⟩ := vals1 r
  cases ru
  have ty := dn_type I d
  obtain ⟨z, ns, o, vs, es, ep, vm, ho, hx, hd, he, nd⟩ := dn_of I d
  have hsz : es.size = ks.length := by rw [Paired.length vm, <- List.length_map (f := entryN X.prog X.w), <- he]; simp
  refine Calls.call_function_entry kind_len plain_len entry_len (args_len1 _) ?_
  unfold Builtin.«len»
  refine wpAny_bind (m := oneArg "len" _) (wpAny_pure ?_)
  refine wpAny_bind (m := callSpecial? (.ref a) (Str.ofString "__len__")) (wpAny_callSpecial?_slot (name := Str.ofString "__len__") ty F.slot_dict_len
    (wpAny_call_entry F.slot_dict_len ty F.entry_dict_len ?_ (F.args_dict_len_1 _)))
  show wpAny _ _ (dictSize a >>= _) _ _ s
  unfold dictSize
  refine wpAny_bind (wpAny_bind (wpAny_dictEntries ho hd (wpAny_pure ?_)))
  show wpAny _ _ (Builtin.Dict.pendingCount a >>= _) _ _ s
  refine wpAny_bind (wpAny_pendingCount_other ns ?_)
  refine wpAny_ret_mkInt ?_
  rw [show ((es.size : Nat) : Int) + ((0 : Nat) : Int) = (ks.length : Int) by omega]
  show wpAny _ _ _ _ _ { s with toks := s.toks + 1 }
  refine wpAny_bind (wpAny_holding (wpAny_pure ?_))
  refine wpAny_bind (wpAny_letGo ?_)
  show wpAny _ _ (if ((ks.length : Nat) : Int) < 0 then _ else _) _ _ _
  rw [if_neg (by omega)]
  show wpAny _ _ (if ((ks.length : Nat) : Int) >= 2 ^ 63 then _ else _) _ _ _
  rw [if_neg (by rw [sizeLine_eq] at z; omega)]
  exact wpAny_bind (wpAny_mkInt (wpAny_pure ⟨_, rfl, .int (ks.length : Int), H, I.tok _, ⟨_, rfl⟩, q⟩))
def rIdxN (K : PySem.W.Frag) : V -> List V -> Hp -> VK -> Prop := fun x vs H Q => ∃ (l : Addr) (xs : List V) (u : V) (κ : V -> NK) (j : Nat) (v' : V), x = .ref l /\ vs = [u] /\ SqL K H l xs /\ (∀ v ∈ xs, keyN H (κ v) v) /\ keyN H (κ u) u /\ xs[j]? = some v' /\ κ v' = κ u /\ (∀ (m : Nat) y, m < j -> xs[m]? = some y -> κ y ≠ κ u) /\ Q (.int (j : Int)) H
open Classical in
theorem mt_idxN (hu : X.A.units + 80 < cLine) : MtR X "list.index" (rIdxN X.K) := by
  intro pins s σ H x vs v us Q I rx rv h
  obtain ⟨l, xs, z, κ, j, v', rfl, rfl, hq, hks, hz', hj, hjk, hno, q⟩ := h
  cases rx
  obtain ⟨u, rfl, ru⟩ := vals1 rv
  obtain ⟨its, r, pl, hz⟩ := I.list hq
  obtain ⟨⟨cls, dd, data, sl⟩, n, ho, hc, hd, hs⟩ := pl
  simp only at hc hd hs
  subst hc
  have hlen := r.length
  have at_ : ∀ (m : Nat) (y : Value), its[m]? = some y -> ∃ w, xs[m]? = some w /\ RelV w y := fun m y hy => by
    have hm : m < xs.length := by have := lt_of_some hy; omega
    obtain ⟨w, hw⟩ := some_of_lt hm
    obtain ⟨v', hv', rv'⟩ := r.get (i := m) hw
    rw [hy] at hv'
    cases hv'
    exact ⟨w, hw, rv'⟩
  subst hs
  have eval : ∀ (w : V) (y : Value), w ∈ xs -> RelV w y -> decide (∃ v ∈ xs, RelV v y /\ κ v = κ z) = decide (κ w = κ z) := fun w y hw ry => by
    refine decide_eq_decide.mpr ⟨fun ⟨v, hv, rv, e⟩ => ?_, fun e => ⟨w, hw, ry, e⟩⟩
    rw [key_val (hks w hw) (hks v hv) ry rv]
    exact e
  have hjl : j < its.length := by have := lt_of_some hj; omega
  refine call_meets F.slot_list_index ⟨_, ho, rfl⟩ F.entry_list_index (F.args_list_index_2 _ _) (SeqAt.list_indexAt l its.toArray n dd sl u (fun y => decide (∃ v ∈ xs, RelV v y /\ κ v = κ z)) j (by rw [List.size_toArray]; exact hjl) ?_ ?_ ?_) ⟨ho, fun y hy => ?_, ⟨.int (j : Int), H, I.tok _, ⟨_, rfl⟩, q⟩⟩
  · have h1 : (sizeLine : Int) < 2 ^ 63 - 1 := by decide
    omega
  · obtain ⟨w, h1, h2⟩ := at_ j its[j] (List.getElem?_eq_getElem hjl)
    have hw := List.mem_of_getElem? h1
    rw [hj] at h1
    cases h1
    show decide (∃ v ∈ xs, RelV v its[j] /\ κ v = κ z) = true
    rw [eval v' _ hw h2]
    exact decide_eq_true hjk
  · intro m hm hlt
    rw [List.size_toArray] at hm
    obtain ⟨w, h1, h2⟩ := at_ m its[m] (List.getElem?_eq_getElem hm)
    show decide (∃ v ∈ xs, RelV v its[m] /\ κ v = κ z) = false
    rw [eval w _ (List.mem_of_getElem? h1) h2]
    exact decide_eq_false (hno m w hlt h1)
  · obtain ⟨m, hm⟩ := List.getElem?_of_mem (show y ∈ its by simpa using hy)
    obtain ⟨w, h1, h2⟩ := at_ m y hm
    have hw := List.mem_of_getElem? h1
    show SeqAt.EqAt _ _ _ _ (decide (∃ v ∈ xs, RelV v y /\ κ v = κ z))
    rw [eval w _ hw h2]
    have e := eqAt_D I (A := X.A.in1) 2 (daN (κ w)) (daN (κ z)) (dep_N _) (isd_N (hks w hw)) (isd_N hz') h2 ru (by show X.A.units + _ + 2 < cLine; omega)
    rw [eqD_N] at e
    have e2 : ∀ (d1 d2 : Decidable (κ w = κ z)), @decide _ d1 = @decide _ d2 := fun d1 d2 => by cases d1 <;> cases d2 <;> simp_all
    rw [e2 _ _] at e
    exact e
end
theorem call_isRC {X : Cx} {K : PySem.W.Frag} (h : X.K = K) : CallR X (.builtin "isinstance") (fun xs H Q => ∃ (a C fI dx : Addr) (v : V) (b : Bool), xs = [.ref a, v] /\ H a = some (excR a C dx) /\ RgC K C fI /\
    ((∃ D, v = .ref D /\ PySem.W.kitOne K (.ref C) (.ref D) = some b) \/ (∃ T, v = .ty T /\ PySem.W.kitOne K (.ref C) (.type T) = some b) \/ (∃ (p : Addr) (ds : List Addr), v = .ref p /\ H p = some (.tup (ds.map V.ref)) /\ PySem.W.kitAny K (.ref C) (ds.map Value.ref) = some b)) /\ Q (.bl b) H) := h ▸ call_isR
theorem qe_ringC {X : Cx} {K : PySem.W.Frag} (h : X.K = K) {e : Expr} {f : Str} {pos : Pos} {ta : TE} (he : QE X e ta) (hb : attributeBase e f X.env (eval e X.env) = eval e X.env := by rfl) : QE X (.Attribute e f pos) (tRing K ta f) := h ▸ qe_ring he hb
end L2
namespace WK
variable {α : Type} [DecidableEq α]
def Nr (E : α -> List α) (p q : α) : Prop := ∀ S : α -> Prop, (∀ q, S q -> ∀ e ∈ E q, S e) -> (∀ e ∈ E p, S e) -> S q
theorem Nr.edge {E : α -> List α} {p e : α} (h : e ∈ E p) : Nr E p e := fun _ _ b => b e h
theorem Nr.on {E : α -> List α} {p q e : α} (h : Nr E p q) (he : e ∈ E q) : Nr E p e := fun S a b => a q (h S a b) e he
structure DS (E : α -> List α) (U tr : List α) (c : α -> Option Nat) (z : List α) : Prop where
  ndz : z.Nodup
  ndt : tr.Nodup
  dis : ∀ p ∈ tr, p ∉ z
  lk : ∀ p, (c p).isSome = true ↔ p ∈ tr \/ p ∈ z
  ut : ∀ p ∈ tr, p ∈ U
  uz : ∀ p ∈ z, p ∈ U
  cl : ∀ p k, c p = some k -> k <= (E p).length
  ord : ∀ (i : Nat) p, z[i]? = some p -> ∀ e ∈ E p, e ∈ z.take i
  top : ∀ t p k, tr = t ++ [p] -> c p = some k -> ∀ (j : Nat) e, j < k -> (E p)[j]? = some e -> e ∈ z
  mid : ∀ (i : Nat) p q, tr[i]? = some p -> tr[i + 1]? = some q -> ∃ k, c p = some (k + 1) /\ (E p)[k]? = some q /\ ∀ (j : Nat) e, j < k -> (E p)[j]? = some e -> e ∈ z
def put (c : α -> Option Nat) (p : α) (k : Nat) : α -> Option Nat := fun q => if q = p then some k else c q
theorem put_same {c : α -> Option Nat} {p : α} {k : Nat} : put c p k p = some k := if_pos rfl
theorem put_ne {c : α -> Option Nat} {p q : α} {k : Nat} (h : q ≠ p) : put c p k q = c q := if_neg h
variable {E : α -> List α} {U tr : List α} {c : α -> Option Nat} {z : List α}
theorem DS.nil : DS E U [] (fun _ => none) [] := ⟨.nil, .nil, (fun _ h => nomatch h), fun p => by simp, (fun _ h => nomatch h), (fun _ h => nomatch h), (fun _ _ h => nomatch h), fun i p h => by simp at h, fun t p k h => by simp at h, fun i p q h => by simp at h⟩
theorem DS.start {p : α} (d : DS E U [] c z) (hp : p ∈ U) (hn : p ∉ z) : DS E U [p] (put c p 0) z where
  ndz := d.ndz
  ndt := by simp
  dis := fun q hq => by rw [List.mem_singleton.mp hq]; exact hn
  lk := fun q => by
    by_cases h : q = p
    · subst h; rw [put_same]; simp
    · rw [put_ne h, d.lk q]; simp [h]
  ut := fun q hq => by rw [List.mem_singleton.mp hq]; exact hp
  uz := d.uz
  cl := fun q k h => by
    by_cases e : q = p
    · subst e; rw [put_same] at h; cases h; exact Nat.zero_le _
    · rw [put_ne e] at h; exact d.cl q k h
  ord := d.ord
  top := fun t q k e h j x hj => by
    have : t = [] /\ q = p := by
      cases t with
      | nil => simp at e; exact ⟨rfl, e.symm⟩
      | cons a t => simp at e
    rw [this.2, put_same] at h
    cases h
    exact absurd hj (Nat.not_lt_zero _)
  mid := fun i a b h1 h2 => by
    cases i with
    | zero => simp at h2
    | succ i => simp at h1
theorem DS.done {t : List α} {p : α} {k : Nat} (d : DS E U (t ++ [p]) c z) (hc : c p = some k) (hk : (E p).length <= k) : DS E U t c (z ++ [p]) := by
  have hpz : p ∉ z := d.dis p (by simp)
  have hall : ∀ e ∈ E p, e ∈ z := fun e he => by
    obtain ⟨j, hj⟩ := List.getElem?_of_mem he
    exact d.top t p k rfl hc j e (Nat.lt_of_lt_of_le (List.getElem?_eq_some_iff.mp hj).1 hk) hj
  have ndt := List.nodup_append.mp d.ndt
  refine ⟨?_, ndt.1, fun q hq h => ?_, fun q => ?_, fun q hq => d.ut q (List.mem_append_left _ hq), fun q hq => ?_, d.cl, fun i q hq e he => ?_, fun t' q k' e h j x hj hx => ?_, fun i a b h1 h2 => ?_⟩
  · exact List.nodup_append.mpr ⟨d.ndz, by simp, fun a ha b hb => by rw [List.mem_singleton.mp hb]; exact fun e => hpz (e ▸ ha)⟩
  · rcases List.mem_append.mp h with h | h
    · exact d.dis q (List.mem_append_left _ hq) h
    · exact ndt.2.2 q hq p (by simp) (List.mem_singleton.mp h)
  · rw [d.lk q]
    simp only [List.mem_append, List.mem_singleton]
    constructor
    · rintro ((h | h) | h)
      · exact .inl h
      · exact .inr (.inr h)
      · exact .inr (.inl h)
    · rintro (h | h | h)
      · exact .inl (.inl h)
      · exact .inr h
      · exact .inl (.inr h)
  · rcases List.mem_append.mp hq with h | h
    · exact d.uz q h
    · rw [List.mem_singleton.mp h]; exact d.ut p (by simp)
  · by_cases hi : i < z.length
    · rw [List.getElem?_append_left hi] at hq
      rw [List.take_append_of_le_length (Nat.le_of_lt hi)]
      exact d.ord i q hq e he
    · rw [List.getElem?_append_right (Nat.le_of_not_lt hi)] at hq
      have hi0 : i - z.length = 0 := by
        have := (List.getElem?_eq_some_iff.mp hq).1
        simp at this
        omega
      rw [hi0] at hq
      have : p = q := by simpa using hq
      subst this
      have ei : i = z.length := by omega
      rw [ei, List.take_append_of_le_length (Nat.le_refl _), List.take_length]
      exact hall e he
  · subst e
    obtain ⟨k2, h1, h2, h3⟩ := d.mid t'.length q p (by simp) (by simp)
    rw [h] at h1
    cases h1
    rcases Nat.lt_succ_iff_lt_or_eq.mp hj with hj | rfl
    · exact List.mem_append_left _ (h3 j x hj hx)
    · rw [h2] at hx; cases hx; simp
  · have h1' : (t ++ [p])[i]? = some a := by rw [List.getElem?_append_left (List.getElem?_eq_some_iff.mp h1).1]; exact h1
    have h2' : (t ++ [p])[i + 1]? = some b := by rw [List.getElem?_append_left (List.getElem?_eq_some_iff.mp h2).1]; exact h2
    obtain ⟨k2, g1, g2, g3⟩ := d.mid i a b h1' h2'
    exact ⟨k2, g1, g2, fun j e hj he => List.mem_append_left _ (g3 j e hj he)⟩
theorem DS.cl' {t : List α} {p : α} {k : Nat} (d : DS E U (t ++ [p]) c z) {e : α} (hc : c p = some k) (he : (E p)[k]? = some e) : ∀ q j, put c p (k + 1) q = some j -> j <= (E q).length := fun q j h => by
  by_cases hq : q = p
  · subst hq
    rw [put_same] at h
    cases h
    exact (List.getElem?_eq_some_iff.mp he).1
  · rw [put_ne hq] at h
    exact d.cl q j h
theorem DS.skip {t : List α} {p e : α} {k : Nat} (d : DS E U (t ++ [p]) c z) (hc : c p = some k) (he : (E p)[k]? = some e) (hz : e ∈ z) : DS E U (t ++ [p]) (put c p (k + 1)) z := by
  have ndt := List.nodup_append.mp d.ndt
  refine ⟨d.ndz, d.ndt, d.dis, fun q => ?_, d.ut, d.uz, d.cl' hc he, d.ord, fun t' q k' e' h j x hj hx => ?_, fun i a b h1 h2 => ?_⟩
  · by_cases hq : q = p
    · subst hq; rw [put_same]; simp
    · rw [put_ne hq]; exact d.lk q
  · obtain ⟨rfl, hqp⟩ := List.append_inj' e' rfl
    have hqp : p = q := by simpa using hqp
    subst hqp
    rw [put_same] at h
    cases h
    rcases Nat.lt_succ_iff_lt_or_eq.mp hj with hj | rfl
    · exact d.top t p k rfl hc j x hj hx
    · rw [he] at hx; cases hx; exact hz
  · obtain ⟨k2, g1, g2, g3⟩ := d.mid i a b h1 h2
    have ha : a ≠ p := fun z => by
      have hi : i < t.length := by
        have := (List.getElem?_eq_some_iff.mp h2).1
        simp at this
        omega
      rw [List.getElem?_append_left hi] at h1
      exact ndt.2.2 a (List.mem_of_getElem? h1) p (by simp) z
    exact ⟨k2, by rw [put_ne ha]; exact g1, g2, g3⟩
theorem DS.push {t : List α} {p e : α} {k : Nat} (d : DS E U (t ++ [p]) c z) (hc : c p = some k) (he : (E p)[k]? = some e) (hn : c e = none) (hu : e ∈ U) : DS E U (t ++ [p] ++ [e]) (put (put c p (k + 1)) e 0) z := by
  have ndt := List.nodup_append.mp d.ndt
  have hen : e ∉ t ++ [p] /\ e ∉ z := by
    constructor
    · intro h; have := (d.lk e).mpr (.inl h); rw [hn] at this; cases this
    · intro h; have := (d.lk e).mpr (.inr h); rw [hn] at this; cases this
  have hep : e ≠ p := fun h => hen.1 (by rw [h]; simp)
  refine ⟨d.ndz, List.nodup_append.mpr ⟨d.ndt, by simp, fun a ha b hb => by rw [List.mem_singleton.mp hb]; exact fun h => hen.1 (h ▸ ha)⟩, fun q hq => ?_, fun q => ?_, fun q hq => ?_, d.uz, fun q j h => ?_, d.ord, fun t' q k' e' h j x hj hx => ?_, fun i a b h1 h2 => ?_⟩
  · rcases List.mem_append.mp hq with h | h
    · exact d.dis q h
    · rw [List.mem_singleton.mp h]; exact hen.2
  · by_cases hq : q = e
    · subst hq; rw [put_same]; simp
    · rw [put_ne hq]
      by_cases hq2 : q = p
      · subst hq2; rw [put_same]; simp
      · rw [put_ne hq2, d.lk q]; simp [hq]
  · rcases List.mem_append.mp hq with h | h
    · exact d.ut q h
    · rw [List.mem_singleton.mp h]; exact hu
  · by_cases hq : q = e
    · subst hq; rw [put_same] at h; cases h; exact Nat.zero_le _
    · rw [put_ne hq] at h; exact d.cl' hc he q j h
  · obtain ⟨_, hqe⟩ := List.append_inj' e' rfl
    have hqe : e = q := by simpa using hqe
    subst hqe
    rw [put_same] at h
    cases h
    exact absurd hj (Nat.not_lt_zero _)
  · by_cases hi : i + 1 < (t ++ [p]).length
    · rw [List.getElem?_append_left (by omega)] at h1
      rw [List.getElem?_append_left hi] at h2
      obtain ⟨k2, g1, g2, g3⟩ := d.mid i a b h1 h2
      have hil : i < t.length := by simp at hi; omega
      rw [List.getElem?_append_left hil] at h1
      have ha := List.mem_of_getElem? h1
      have hap : a ≠ p := fun h => ndt.2.2 a ha p (by simp) h
      have hae : a ≠ e := fun h => hen.1 (List.mem_append_left _ (h ▸ ha))
      exact ⟨k2, by rw [put_ne hae, put_ne hap]; exact g1, g2, g3⟩
    · have l2 := (List.getElem?_eq_some_iff.mp h2).1
      simp only [List.length_append, List.length_cons, List.length_nil] at l2 hi
      have ei : i = t.length := by omega
      subst ei
      have ha : p = a := by simpa using h1
      have hb : e = b := by
        have : (t ++ [p] ++ [e])[t.length + 1]? = some e := by
          rw [List.getElem?_append_right (by simp)]
          simp
        rw [this] at h2
        cases h2
        rfl
      subst ha hb
      exact ⟨k, by rw [put_ne (Ne.symm hep), put_same], he, fun j x hj hx => d.top t p k rfl hc j x hj hx⟩
structure RingP (E : α -> List α) (r : List α) : Prop where
  ne : r ≠ []
  nd : r.Nodup
  st : ∀ (i : Nat) p q, r[i]? = some p -> r[i + 1]? = some q -> q ∈ E p
  cl : ∀ p q, r.head? = some p -> r.getLast? = some q -> p ∈ E q
theorem DS.ring {t : List α} {p e : α} {k i : Nat} (d : DS E U (t ++ [p]) c z) (hc : c p = some k) (he : (E p)[k]? = some e) (hi : (t ++ [p])[i]? = some e) : RingP E ((t ++ [p]).drop i) := by
  have il := (List.getElem?_eq_some_iff.mp hi).1
  refine ⟨fun h => ?_, ?_, fun j a b h1 h2 => ?_, fun a b h1 h2 => ?_⟩
  · have := List.drop_eq_nil_iff.mp h
    omega
  · have := d.ndt
    rw [<- List.take_append_drop i (t ++ [p])] at this
    exact (List.nodup_append.mp this).2.1
  · rw [List.getElem?_drop] at h1 h2
    obtain ⟨k2, _, g2, _⟩ := d.mid (i + j) a b h1 h2
    exact List.mem_of_getElem? g2
  · have ha : a = e := by
      rw [List.head?_drop, hi] at h1
      cases h1
      rfl
    have hb : b = p := by
      rw [List.getLast?_drop, if_neg (by omega)] at h2
      simpa using h2.symm
    subst ha hb
    exact List.mem_of_getElem? he
theorem RingP.from {r : List α} (g : RingP E r) : ∀ (m i : Nat) p q, r[i]? = some p -> r[i + m + 1]? = some q -> Nr E p q
  | 0, i, p, q, h1, h2 => .edge (g.st i p q h1 h2)
  | m + 1, i, p, q, h1, h2 => by
    have hl := (List.getElem?_eq_some_iff.mp h2).1
    have hm : i + m + 1 < r.length := by omega
    exact (g.from m i p _ h1 (List.getElem?_eq_getElem hm)).on (g.st (i + m + 1) _ q (List.getElem?_eq_getElem hm) (by rw [show i + m + 1 + 1 = i + (m + 1) + 1 by omega]; exact h2))
theorem RingP.cyc {r : List α} (g : RingP E r) : ∃ p ∈ r, Nr E p p := by
  obtain ⟨a, ra⟩ : ∃ a, r.head? = some a := by
    cases h : r with
    | nil => exact absurd h g.ne
    | cons x xs => exact ⟨x, rfl⟩
  obtain ⟨b, rb⟩ : ∃ b, r.getLast? = some b := by
    cases h : r.getLast? with
    | none => exact absurd (List.getLast?_eq_none_iff.mp h) g.ne
    | some b => exact ⟨b, rfl⟩
  have e1 := g.cl a b ra rb
  have ha : r[0]? = some a := by rw [<- List.head?_eq_getElem?]; exact ra
  have hb : r[r.length - 1]? = some b := by rw [<- List.getLast?_eq_getElem?]; exact rb
  refine ⟨a, List.mem_of_getElem? ha, ?_⟩
  by_cases h1 : r.length = 1
  · rw [h1] at hb
    rw [ha] at hb
    cases hb
    exact .edge e1
  · have hl := (List.getElem?_eq_some_iff.mp ha).1
    exact (g.from (r.length - 2) 0 a b ha (by rw [show 0 + (r.length - 2) + 1 = r.length - 1 by omega]; exact hb)).on e1
theorem DS.acyc (d : DS E U [] c z) {p : α} (hp : p ∈ z) : ¬ Nr E p p := fun h => by
  obtain ⟨i, hi⟩ := List.getElem?_of_mem hp
  have := h (fun q => q ∈ z.take i) (fun q hq e he => by
    obtain ⟨j, hj⟩ := List.getElem?_of_mem hq
    have hjl := (List.getElem?_eq_some_iff.mp hj).1
    rw [List.length_take] at hjl
    rw [List.getElem?_take_of_lt (by omega)] at hj
    have := d.ord j q hj e he
    exact (List.take_subset_take_left z (by omega)) this) (fun e he => d.ord i p hi e he)
  obtain ⟨j, hj⟩ := List.getElem?_of_mem this
  have hjl := (List.getElem?_eq_some_iff.mp hj).1
  rw [List.length_take] at hjl
  rw [List.getElem?_take_of_lt (by omega)] at hj
  have e1 := (List.getElem?_eq_some_iff.mp hj)
  have e2 := (List.getElem?_eq_some_iff.mp hi)
  have := (List.getElem_inj (h₀ := e1.1) (h₁ := e2.1) d.ndz).mp (e1.2.trans e2.2.symm)
  omega
def left (E : α -> List α) (U : List α) (c : α -> Option Nat) (z : List α) : Nat := (U.map fun p => ((E p).length - (c p).getD 0) + if p ∈ z then 0 else 1).sum
theorem sum_le (f g : α -> Nat) : ∀ (l : List α), (∀ p ∈ l, g p <= f p) -> (l.map g).sum <= (l.map f).sum
  | [], _ => Nat.le_refl _
  | a :: l, h => by
    rw [List.map_cons, List.map_cons, List.sum_cons, List.sum_cons]
    exact Nat.add_le_add (h a List.mem_cons_self) (sum_le f g l fun p hp => h p (List.mem_cons_of_mem _ hp))
theorem sum_lt (f g : α -> Nat) {a : α} : ∀ (l : List α), (∀ p ∈ l, g p <= f p) -> a ∈ l -> g a < f a -> (l.map g).sum < (l.map f).sum
  | b :: l, h, hm, hl => by
    rw [List.map_cons, List.map_cons, List.sum_cons, List.sum_cons]
    have hb := h b List.mem_cons_self
    have hr := sum_le f g l fun p hp => h p (List.mem_cons_of_mem _ hp)
    rcases List.mem_cons.mp hm with rfl | hm
    · omega
    · have := sum_lt f g l (fun p hp => h p (List.mem_cons_of_mem _ hp)) hm hl
      omega
theorem left_done {p : α} (hp : p ∈ U) (hn : p ∉ z) : left E U c (z ++ [p]) < left E U c z := by
  refine sum_lt _ _ U (fun q _ => Nat.add_le_add_left ?_ _) hp (Nat.add_lt_add_left ?_ _)
  · by_cases h : q ∈ z
    · rw [if_pos (List.mem_append_left _ h)]; exact Nat.zero_le _
    · rw [if_neg h]; split <;> omega
  · rw [if_neg hn, if_pos (by simp)]; exact Nat.one_pos
theorem left_on {p : α} {k : Nat} (hp : p ∈ U) (hc : c p = some k) (hk : k < (E p).length) : left E U (put c p (k + 1)) z < left E U c z := by
  refine sum_lt _ _ U (fun q _ => Nat.add_le_add_right ?_ _) hp (Nat.add_lt_add_right ?_ _)
  · by_cases h : q = p
    · subst h; rw [put_same, hc]; show (E q).length - (k + 1) <= (E q).length - k; omega
    · rw [put_ne h]; exact Nat.le_refl _
  · rw [put_same, hc]
    show (E p).length - (k + 1) < (E p).length - k
    omega
theorem left_new {e : α} (hn : c e = none) : left E U (put c e 0) z = left E U c z := by
  unfold left
  congr 1
  refine List.map_congr_left fun q _ => ?_
  by_cases h : q = e
  · subst h; rw [put_same, hn]; rfl
  · rw [put_ne h]
end WK
namespace K31
open PySem L2
set_option genInjectivity false
set_option genSizeOf false
theorem bd1 {K : PySem.W.Frag} {x qual : Str} {st : Stmt} {f : Addr} {fd : FuncData} {ps : List Str} (F : Fun K x qual st f fd) (hl : ps.length = 1) (h : ∀ (kV doc pm : Value) (an : Option Addr) (cdv ct : Value) (a : Value), bindArgs (PySem.W.fnOf x qual (defArgs st) (defBody st) (defScope st) .none kV doc pm an cdv ct) ⟨[a], []⟩ = pure (ps.zip [a])) : Binds K fd ps [] := F.binds fun kV doc pm an cdv ct us e => by
  rw [hl] at e
  match us, e with
  | [a], _ => exact h kV doc pm an cdv ct a
theorem bd2 {K : PySem.W.Frag} {x qual : Str} {st : Stmt} {f : Addr} {fd : FuncData} {ps : List Str} (F : Fun K x qual st f fd) (hl : ps.length = 2) (h : ∀ (kV doc pm : Value) (an : Option Addr) (cdv ct : Value) (a b : Value), bindArgs (PySem.W.fnOf x qual (defArgs st) (defBody st) (defScope st) .none kV doc pm an cdv ct) ⟨[a, b], []⟩ = pure (ps.zip [a, b])) : Binds K fd ps [] := F.binds fun kV doc pm an cdv ct us e => by
  rw [hl] at e
  match us, e with
  | [a, b], _ => exact h kV doc pm an cdv ct a b
theorem bd4 {K : PySem.W.Frag} {x qual : Str} {st : Stmt} {f : Addr} {fd : FuncData} {ps : List Str} (F : Fun K x qual st f fd) (hl : ps.length = 4) (h : ∀ (kV doc pm : Value) (an : Option Addr) (cdv ct : Value) (a b c d : Value), bindArgs (PySem.W.fnOf x qual (defArgs st) (defBody st) (defScope st) .none kV doc pm an cdv ct) ⟨[a, b, c, d], []⟩ = pure (ps.zip [a, b, c, d])) : Binds K fd ps [] := F.binds fun kV doc pm an cdv ct us e => by
  rw [hl] at e
  match us, e with
  | [a, b, c, d], _ => exact h kV doc pm an cdv ct a b c d
def top (i : Nat) : Stmt := PySem.Challenge.pw_leafsay_k31_rings_and_orders.main.body.getD i (.Pass ⟨0, 0, 0, 0⟩)
abbrev s_qinit : Stmt := inClass (top 11) 0
abbrev s_qsettle : Stmt := top 13
abbrev s_qorderof : Stmt := top 14
abbrev s_qringin : Stmt := top 15
abbrev s_qnode : Stmt := top 17
abbrev s_qedges : Stmt := top 18
abbrev s_qgraph : Stmt := top 19
abbrev s_qcopy : Stmt := top 20
abbrev s_qplain : Stmt := top 21
abbrev s_qisorder : Stmt := top 22
abbrev s_qisring : Stmt := top 23
abbrev s_qordered : Stmt := top 24
abbrev s_law : Stmt := top 25
theorem sc_qinit : FnScope ["self", "ring"] ["self", "ring"] (defScope s_qinit) := ⟨rfl, rfl, rfl, by decide +kernel, rfl, by decide +kernel, by decide +kernel⟩
theorem sc_qsettle : FnScope ["graph", "start", "looked_at", "settled", "trail", "node", "lower"] ["graph", "start", "looked_at", "settled"] (defScope s_qsettle) := ⟨rfl, rfl, rfl, by decide +kernel, rfl, by decide +kernel, by decide +kernel⟩
theorem sc_qorderof : FnScope ["graph", "looked_at", "settled", "node"] ["graph"] (defScope s_qorderof) := ⟨rfl, rfl, rfl, by decide +kernel, rfl, by decide +kernel, by decide +kernel⟩
theorem sc_qringin : FnScope ["graph", "found"] ["graph"] (defScope s_qringin) := ⟨rfl, rfl, rfl, by decide +kernel, rfl, by decide +kernel, by decide +kernel⟩
theorem sc_qnode : FnScope ["_law_cell", "_law_k", "_law_letters", "_law_same", "_law_word", "_law_way"] ["_law_cell", "_law_k"] (defScope s_qnode) := ⟨rfl, rfl, rfl, by decide +kernel, rfl, by decide +kernel, by decide +kernel⟩
theorem sc_qedges : FnScope ["_law_graph_here", "_law_nodes", "_law_cells", "_law_way", "_law_many", "_law_cell", "_law_one", "_law_other"] ["_law_graph_here", "_law_nodes", "_law_cells", "_law_way"] (defScope s_qedges) := ⟨rfl, rfl, rfl, by decide +kernel, rfl, by decide +kernel, by decide +kernel⟩
theorem sc_qgraph : FnScope ["_law_cells", "_law_most", "_law_seed", "_law_cell", "_law_many", "_law_nodes", "_law_mixed", "_law_graph_here", "_law_place", "_law_k", "_law_low", "_law_high"] ["_law_cells", "_law_most"] (defScope s_qgraph) := ⟨rfl, rfl, rfl, by decide +kernel, rfl, by decide +kernel, by decide +kernel⟩
theorem sc_qcopy : FnScope ["_law_graph_here", "_law_found", "_law_node_here"] ["_law_graph_here"] (defScope s_qcopy) := ⟨rfl, rfl, rfl, by decide +kernel, rfl, by decide +kernel, by decide +kernel⟩
theorem sc_qplain : FnScope ["_law_thing", "_law_one"] ["_law_thing"] (defScope s_qplain) := ⟨rfl, rfl, rfl, by decide +kernel, rfl, by decide +kernel, by decide +kernel⟩
theorem sc_qisorder : FnScope ["_law_found", "_law_graph_here", "_law_seen", "_law_node_here", "_law_other"] ["_law_found", "_law_graph_here"] (defScope s_qisorder) := ⟨rfl, rfl, rfl, by decide +kernel, rfl, by decide +kernel, by decide +kernel⟩
theorem sc_qisring : FnScope ["_law_found", "_law_graph_here", "_law_seen", "_law_k", "_law_node_here"] ["_law_found", "_law_graph_here"] (defScope s_qisring) := ⟨rfl, rfl, rfl, by decide +kernel, rfl, by decide +kernel, by decide +kernel⟩
theorem sc_qordered : FnScope ["_law_graph_here", "_law_ring", "_law_found", "_law_good", "e"] ["_law_graph_here"] (defScope s_qordered) := ⟨rfl, rfl, rfl, by decide +kernel, rfl, by decide +kernel, by decide +kernel⟩
theorem sc_law : FnScope ["_law_script", "_law_cells", "_law_graph_here", "_law_handed", "_law_ring", "_law_told"] ["_law_script"] (defScope s_law) := ⟨rfl, rfl, rfl, by decide +kernel, rfl, by decide +kernel, by decide +kernel⟩
structure Adr where
  qinit : Addr
  d_qinit : FuncData
  qsettle : Addr
  d_qsettle : FuncData
  qorderof : Addr
  d_qorderof : FuncData
  qringin : Addr
  d_qringin : FuncData
  qnode : Addr
  d_qnode : FuncData
  qedges : Addr
  d_qedges : FuncData
  qgraph : Addr
  d_qgraph : FuncData
  qcopy : Addr
  d_qcopy : FuncData
  qplain : Addr
  d_qplain : FuncData
  qisorder : Addr
  d_qisorder : FuncData
  qisring : Addr
  d_qisring : FuncData
  qordered : Addr
  d_qordered : FuncData
  law : Addr
  d_law : FuncData
  k_LeafError : Addr
  k_NoText : Addr
  k_TooGreat : Addr
  k_NoName : Addr
  k_NoRule : Addr
  k_NoKind : Addr
  k_NoTree : Addr
  k_NoPlace : Addr
  k_NoGiven : Addr
  k_NoWalk : Addr
  k_Ring : Addr
structure Tx (K : PySem.W.Frag) (mg : Str -> Option Value) (T : Adr) : Prop where
  F_qinit : Fun K "__init__" "Ring.__init__" s_qinit T.qinit T.d_qinit
  b_qinit : Binds K T.d_qinit ["self", "ring"] []
  h_qinit : Meth K T.k_Ring "__init__" T.qinit
  F_qsettle : Fun K "settle" "settle" s_qsettle T.qsettle T.d_qsettle
  b_qsettle : Binds K T.d_qsettle ["graph", "start", "looked_at", "settled"] []
  m_qsettle : mg "settle" = some (.ref T.qsettle)
  F_qorderof : Fun K "order_of" "order_of" s_qorderof T.qorderof T.d_qorderof
  b_qorderof : Binds K T.d_qorderof ["graph"] []
  m_qorderof : mg "order_of" = some (.ref T.qorderof)
  F_qringin : Fun K "ring_in" "ring_in" s_qringin T.qringin T.d_qringin
  b_qringin : Binds K T.d_qringin ["graph"] []
  m_qringin : mg "ring_in" = some (.ref T.qringin)
  F_qnode : Fun K "_law_node" "_law_node" s_qnode T.qnode T.d_qnode
  b_qnode : Binds K T.d_qnode ["_law_cell", "_law_k"] []
  m_qnode : mg "_law_node" = some (.ref T.qnode)
  F_qedges : Fun K "_law_edges" "_law_edges" s_qedges T.qedges T.d_qedges
  b_qedges : Binds K T.d_qedges ["_law_graph_here", "_law_nodes", "_law_cells", "_law_way"] []
  m_qedges : mg "_law_edges" = some (.ref T.qedges)
  F_qgraph : Fun K "_law_graph" "_law_graph" s_qgraph T.qgraph T.d_qgraph
  b_qgraph : Binds K T.d_qgraph ["_law_cells", "_law_most"] []
  m_qgraph : mg "_law_graph" = some (.ref T.qgraph)
  F_qcopy : Fun K "_law_copy" "_law_copy" s_qcopy T.qcopy T.d_qcopy
  b_qcopy : Binds K T.d_qcopy ["_law_graph_here"] []
  m_qcopy : mg "_law_copy" = some (.ref T.qcopy)
  F_qplain : Fun K "_law_plain" "_law_plain" s_qplain T.qplain T.d_qplain
  b_qplain : Binds K T.d_qplain ["_law_thing"] []
  m_qplain : mg "_law_plain" = some (.ref T.qplain)
  F_qisorder : Fun K "_law_is_order" "_law_is_order" s_qisorder T.qisorder T.d_qisorder
  b_qisorder : Binds K T.d_qisorder ["_law_found", "_law_graph_here"] []
  m_qisorder : mg "_law_is_order" = some (.ref T.qisorder)
  F_qisring : Fun K "_law_is_ring" "_law_is_ring" s_qisring T.qisring T.d_qisring
  b_qisring : Binds K T.d_qisring ["_law_found", "_law_graph_here"] []
  m_qisring : mg "_law_is_ring" = some (.ref T.qisring)
  F_qordered : Fun K "_law_ordered" "_law_ordered" s_qordered T.qordered T.d_qordered
  b_qordered : Binds K T.d_qordered ["_law_graph_here"] []
  m_qordered : mg "_law_ordered" = some (.ref T.qordered)
  F_law : Fun K "law" "law" s_law T.law T.d_law
  b_law : Binds K T.d_law ["_law_script"] []
  m_law : mg "law" = some (.ref T.law)
  z_ValueError : mg "ValueError" = none
  z_bool : mg "bool" = none
  z_int : mg "int" = none
  z_isinstance : mg "isinstance" = none
  z_len : mg "len" = none
  z_list : mg "list" = none
  z_range : mg "range" = none
  z_sorted : mg "sorted" = none
  z_str : mg "str" = none
  z_sum : mg "sum" = none
  z_tuple : mg "tuple" = none
  m_LeafError : mg "LeafError" = some (.ref T.k_LeafError)
  m_NoText : mg "NoText" = some (.ref T.k_NoText)
  m_TooGreat : mg "TooGreat" = some (.ref T.k_TooGreat)
  m_NoName : mg "NoName" = some (.ref T.k_NoName)
  m_NoRule : mg "NoRule" = some (.ref T.k_NoRule)
  m_NoKind : mg "NoKind" = some (.ref T.k_NoKind)
  m_NoTree : mg "NoTree" = some (.ref T.k_NoTree)
  m_NoPlace : mg "NoPlace" = some (.ref T.k_NoPlace)
  m_NoGiven : mg "NoGiven" = some (.ref T.k_NoGiven)
  m_NoWalk : mg "NoWalk" = some (.ref T.k_NoWalk)
  m_Ring : mg "Ring" = some (.ref T.k_Ring)
  r_Ring : RgC K T.k_Ring T.qinit
  u_Ring_Ring : PySem.W.mroIn K T.k_Ring (.ref T.k_Ring) = some true
  i_Ring_0 : PySem.W.kitAny K (.ref T.k_Ring) [.ref T.k_NoText, .ref T.k_TooGreat, .ref T.k_NoName, .ref T.k_NoRule, .ref T.k_NoKind, .ref T.k_NoTree, .ref T.k_NoPlace, .ref T.k_NoGiven, .ref T.k_NoWalk] = some false
  i_Ring_1 : PySem.W.kitOne K (.ref T.k_Ring) (.ref T.k_LeafError) = some true
  i_Ring_2 : PySem.W.kitOne K (.ref T.k_Ring) (.type "ValueError") = some true
theorem tx_mk {K : PySem.W.Frag} {h : Heap} {mg : Str -> Option Value} (X : K.In h) (G : h.Ns mainGlobals mg) {f0 f1 f2 f3 f4 f5 f6 f7 f8 f9 f10 f11 f12 : Addr} {od0 an0 od1 an1 od2 an2 od3 an3 od4 an4 od5 an5 od6 an6 od7 an7 od8 an8 od9 an9 od10 an10 od11 an11 od12 an12 : Option Addr} {sl0 sl1 sl2 sl3 sl4 sl5 sl6 sl7 sl8 sl9 sl10 sl11 sl12 : Array (Option Value)}
    {oc0 kV0 dc0 pm0 cd0 ct0 oc1 kV1 dc1 pm1 cd1 ct1 oc2 kV2 dc2 pm2 cd2 ct2 oc3 kV3 dc3 pm3 cd3 ct3 oc4 kV4 dc4 pm4 cd4 ct4 oc5 kV5 dc5 pm5 cd5 ct5 oc6 kV6 dc6 pm6 cd6 ct6 oc7 kV7 dc7 pm7 cd7 ct7 oc8 kV8 dc8 pm8 cd8 ct8 oc9 kV9 dc9 pm9 cd9 ct9 oc10 kV10 dc10 pm10 cd10 ct10 oc11 kV11 dc11 pm11 cd11 ct11 oc12 kV12 dc12 pm12 cd12 ct12 : Value}
    {k_LeafError k_NoText k_TooGreat k_NoName k_NoRule k_NoKind k_NoTree k_NoPlace k_NoGiven k_NoWalk k_Ring : Addr}
    (m_LeafError : PySem.W.nsIn K mainGlobals "LeafError" = some (some (.ref k_LeafError)))
    (m_NoText : PySem.W.nsIn K mainGlobals "NoText" = some (some (.ref k_NoText)))
    (m_TooGreat : PySem.W.nsIn K mainGlobals "TooGreat" = some (some (.ref k_TooGreat)))
    (m_NoName : PySem.W.nsIn K mainGlobals "NoName" = some (some (.ref k_NoName)))
    (m_NoRule : PySem.W.nsIn K mainGlobals "NoRule" = some (some (.ref k_NoRule)))
    (m_NoKind : PySem.W.nsIn K mainGlobals "NoKind" = some (some (.ref k_NoKind)))
    (m_NoTree : PySem.W.nsIn K mainGlobals "NoTree" = some (some (.ref k_NoTree)))
    (m_NoPlace : PySem.W.nsIn K mainGlobals "NoPlace" = some (some (.ref k_NoPlace)))
    (m_NoGiven : PySem.W.nsIn K mainGlobals "NoGiven" = some (some (.ref k_NoGiven)))
    (m_NoWalk : PySem.W.nsIn K mainGlobals "NoWalk" = some (some (.ref k_NoWalk)))
    (m_Ring : PySem.W.nsIn K mainGlobals "Ring" = some (some (.ref k_Ring)))
    (a0 : PySem.W.findIn K (.ref k_Ring) "__init__" = some (some (.ref f0))) (i0 : PySem.W.isFn K (.ref f0) = true) (l0 : K.lookup f0 = some ⟨oc0, od0, .func (PySem.W.fnOf "__init__" "Ring.__init__" (defArgs s_qinit) (defBody s_qinit) (defScope s_qinit) .none kV0 dc0 pm0 an0 cd0 ct0), sl0⟩) (c0 : PySem.W.codeIn K cd0 "Ring.__init__" = true) (k0 : PySem.W.keepIn K (.ref f0) = true)
    (a1 : PySem.W.nsIn K mainGlobals "settle" = some (some (.ref f1))) (l1 : K.lookup f1 = some ⟨oc1, od1, .func (PySem.W.fnOf "settle" "settle" (defArgs s_qsettle) (defBody s_qsettle) (defScope s_qsettle) .none kV1 dc1 pm1 an1 cd1 ct1), sl1⟩) (c1 : PySem.W.codeIn K cd1 "settle" = true) (k1 : PySem.W.keepIn K (.ref f1) = true)
    (a2 : PySem.W.nsIn K mainGlobals "order_of" = some (some (.ref f2))) (l2 : K.lookup f2 = some ⟨oc2, od2, .func (PySem.W.fnOf "order_of" "order_of" (defArgs s_qorderof) (defBody s_qorderof) (defScope s_qorderof) .none kV2 dc2 pm2 an2 cd2 ct2), sl2⟩) (c2 : PySem.W.codeIn K cd2 "order_of" = true) (k2 : PySem.W.keepIn K (.ref f2) = true)
    (a3 : PySem.W.nsIn K mainGlobals "ring_in" = some (some (.ref f3))) (l3 : K.lookup f3 = some ⟨oc3, od3, .func (PySem.W.fnOf "ring_in" "ring_in" (defArgs s_qringin) (defBody s_qringin) (defScope s_qringin) .none kV3 dc3 pm3 an3 cd3 ct3), sl3⟩) (c3 : PySem.W.codeIn K cd3 "ring_in" = true) (k3 : PySem.W.keepIn K (.ref f3) = true)
    (a4 : PySem.W.nsIn K mainGlobals "_law_node" = some (some (.ref f4))) (l4 : K.lookup f4 = some ⟨oc4, od4, .func (PySem.W.fnOf "_law_node" "_law_node" (defArgs s_qnode) (defBody s_qnode) (defScope s_qnode) .none kV4 dc4 pm4 an4 cd4 ct4), sl4⟩) (c4 : PySem.W.codeIn K cd4 "_law_node" = true) (k4 : PySem.W.keepIn K (.ref f4) = true)
    (a5 : PySem.W.nsIn K mainGlobals "_law_edges" = some (some (.ref f5))) (l5 : K.lookup f5 = some ⟨oc5, od5, .func (PySem.W.fnOf "_law_edges" "_law_edges" (defArgs s_qedges) (defBody s_qedges) (defScope s_qedges) .none kV5 dc5 pm5 an5 cd5 ct5), sl5⟩) (c5 : PySem.W.codeIn K cd5 "_law_edges" = true) (k5 : PySem.W.keepIn K (.ref f5) = true)
    (a6 : PySem.W.nsIn K mainGlobals "_law_graph" = some (some (.ref f6))) (l6 : K.lookup f6 = some ⟨oc6, od6, .func (PySem.W.fnOf "_law_graph" "_law_graph" (defArgs s_qgraph) (defBody s_qgraph) (defScope s_qgraph) .none kV6 dc6 pm6 an6 cd6 ct6), sl6⟩) (c6 : PySem.W.codeIn K cd6 "_law_graph" = true) (k6 : PySem.W.keepIn K (.ref f6) = true)
    (a7 : PySem.W.nsIn K mainGlobals "_law_copy" = some (some (.ref f7))) (l7 : K.lookup f7 = some ⟨oc7, od7, .func (PySem.W.fnOf "_law_copy" "_law_copy" (defArgs s_qcopy) (defBody s_qcopy) (defScope s_qcopy) .none kV7 dc7 pm7 an7 cd7 ct7), sl7⟩) (c7 : PySem.W.codeIn K cd7 "_law_copy" = true) (k7 : PySem.W.keepIn K (.ref f7) = true)
    (a8 : PySem.W.nsIn K mainGlobals "_law_plain" = some (some (.ref f8))) (l8 : K.lookup f8 = some ⟨oc8, od8, .func (PySem.W.fnOf "_law_plain" "_law_plain" (defArgs s_qplain) (defBody s_qplain) (defScope s_qplain) .none kV8 dc8 pm8 an8 cd8 ct8), sl8⟩) (c8 : PySem.W.codeIn K cd8 "_law_plain" = true) (k8 : PySem.W.keepIn K (.ref f8) = true)
    (a9 : PySem.W.nsIn K mainGlobals "_law_is_order" = some (some (.ref f9))) (l9 : K.lookup f9 = some ⟨oc9, od9, .func (PySem.W.fnOf "_law_is_order" "_law_is_order" (defArgs s_qisorder) (defBody s_qisorder) (defScope s_qisorder) .none kV9 dc9 pm9 an9 cd9 ct9), sl9⟩) (c9 : PySem.W.codeIn K cd9 "_law_is_order" = true) (k9 : PySem.W.keepIn K (.ref f9) = true)
    (a10 : PySem.W.nsIn K mainGlobals "_law_is_ring" = some (some (.ref f10))) (l10 : K.lookup f10 = some ⟨oc10, od10, .func (PySem.W.fnOf "_law_is_ring" "_law_is_ring" (defArgs s_qisring) (defBody s_qisring) (defScope s_qisring) .none kV10 dc10 pm10 an10 cd10 ct10), sl10⟩) (c10 : PySem.W.codeIn K cd10 "_law_is_ring" = true) (k10 : PySem.W.keepIn K (.ref f10) = true)
    (a11 : PySem.W.nsIn K mainGlobals "_law_ordered" = some (some (.ref f11))) (l11 : K.lookup f11 = some ⟨oc11, od11, .func (PySem.W.fnOf "_law_ordered" "_law_ordered" (defArgs s_qordered) (defBody s_qordered) (defScope s_qordered) .none kV11 dc11 pm11 an11 cd11 ct11), sl11⟩) (c11 : PySem.W.codeIn K cd11 "_law_ordered" = true) (k11 : PySem.W.keepIn K (.ref f11) = true)
    (a12 : PySem.W.nsIn K mainGlobals "law" = some (some (.ref f12))) (l12 : K.lookup f12 = some ⟨oc12, od12, .func (PySem.W.fnOf "law" "law" (defArgs s_law) (defBody s_law) (defScope s_law) .none kV12 dc12 pm12 an12 cd12 ct12), sl12⟩) (c12 : PySem.W.codeIn K cd12 "law" = true) (k12 : PySem.W.keepIn K (.ref f12) = true)
    (z_ValueError : PySem.W.nsIn K mainGlobals "ValueError" = some none)
    (z_bool : PySem.W.nsIn K mainGlobals "bool" = some none)
    (z_int : PySem.W.nsIn K mainGlobals "int" = some none)
    (z_isinstance : PySem.W.nsIn K mainGlobals "isinstance" = some none)
    (z_len : PySem.W.nsIn K mainGlobals "len" = some none)
    (z_list : PySem.W.nsIn K mainGlobals "list" = some none)
    (z_range : PySem.W.nsIn K mainGlobals "range" = some none)
    (z_sorted : PySem.W.nsIn K mainGlobals "sorted" = some none)
    (z_str : PySem.W.nsIn K mainGlobals "str" = some none)
    (z_sum : PySem.W.nsIn K mainGlobals "sum" = some none)
    (z_tuple : PySem.W.nsIn K mainGlobals "tuple" = some none)
    (rex_Ring : excInI K k_Ring = true)
    (rini_Ring : PySem.W.findIn K (.ref k_Ring) "__init__" = some (some (.ref f0)))
    (rfn_Ring : PySem.W.typeIn K (.ref f0) = some (.type "function"))
    (rsa_Ring : PySem.W.findIn K (.ref k_Ring) "__setattr__" = some (some (.builtin "object.__setattr__")))
    (rov_Ring : (PySem.W.clsIn K k_Ring).any (fun cd => excOver cd.mro) = true)
    (rrg_Ring : PySem.W.findIn K (.ref k_Ring) "ring" = some none)
    (rhd_Ring : PySem.W.hasDictIn K k_Ring = true)
    (xga_Ring : PySem.W.findIn K (.ref k_Ring) "__getattribute__" = some (some (.builtin "BaseException.__getattribute__")))
    (xgt_Ring : PySem.W.findIn K (.ref k_Ring) "__getattr__" = some none)
    (xca_Ring : PySem.W.findIn K (.ref k_Ring) "__class__" = some (some (.builtin "object.__class__")))
    (xsp_Ring : PySem.W.specialIn K (.builtin "object.__class__") "__get__" = some (some (.builtin "getset_descriptor.__get__")))
    (xtk_Ring : PySem.W.takesIn K (.builtin "object.__class__") = some true)
    (xmo_Ring : PySem.W.mroIn K k_Ring (.type "object") = some true)
    (xmb_Ring : PySem.W.mroIn K k_Ring (.type "BaseException") = some true)
    (u_Ring_Ring : PySem.W.mroIn K k_Ring (.ref k_Ring) = some true)
    (i_Ring_0 : PySem.W.kitAny K (.ref k_Ring) [.ref k_NoText, .ref k_TooGreat, .ref k_NoName, .ref k_NoRule, .ref k_NoKind, .ref k_NoTree, .ref k_NoPlace, .ref k_NoGiven, .ref k_NoWalk] = some false)
    (i_Ring_1 : PySem.W.kitOne K (.ref k_Ring) (.ref k_LeafError) = some true)
    (i_Ring_2 : PySem.W.kitOne K (.ref k_Ring) (.type "ValueError") = some true)
    : ∃ T : Adr, Tx K mg T := by
  have F0 := fun_mk (st := s_qinit) l0 c0 k0
  have F1 := fun_mk (st := s_qsettle) l1 c1 k1
  have F2 := fun_mk (st := s_qorderof) l2 c2 k2
  have F3 := fun_mk (st := s_qringin) l3 c3 k3
  have F4 := fun_mk (st := s_qnode) l4 c4 k4
  have F5 := fun_mk (st := s_qedges) l5 c5 k5
  have F6 := fun_mk (st := s_qgraph) l6 c6 k6
  have F7 := fun_mk (st := s_qcopy) l7 c7 k7
  have F8 := fun_mk (st := s_qplain) l8 c8 k8
  have F9 := fun_mk (st := s_qisorder) l9 c9 k9
  have F10 := fun_mk (st := s_qisring) l10 c10 k10
  have F11 := fun_mk (st := s_qordered) l11 c11 k11
  have F12 := fun_mk (st := s_law) l12 c12 k12
  exact ⟨⟨f0, _, f1, _, f2, _, f3, _, f4, _, f5, _, f6, _, f7, _, f8, _, f9, _, f10, _, f11, _, f12, _, k_LeafError, k_NoText, k_TooGreat, k_NoName, k_NoRule, k_NoKind, k_NoTree, k_NoPlace, k_NoGiven, k_NoWalk, k_Ring⟩, ⟨F0, bd2 (ps := ["self", "ring"]) F0 rfl (fun _ _ _ _ _ _ _ _ => rfl), ⟨a0, i0, k0⟩, F1, bd4 (ps := ["graph", "start", "looked_at", "settled"]) F1 rfl (fun _ _ _ _ _ _ _ _ _ _ => rfl), PySem.W.mg_of X G a1, F2, bd1 (ps := ["graph"]) F2 rfl (fun _ _ _ _ _ _ _ => rfl), PySem.W.mg_of X G a2, F3, bd1 (ps := ["graph"]) F3 rfl (fun _ _ _ _ _ _ _ => rfl), PySem.W.mg_of X G a3, F4, bd2 (ps := ["_law_cell", "_law_k"]) F4 rfl (fun _ _ _ _ _ _ _ _ => rfl), PySem.W.mg_of X G a4, F5, bd4 (ps := ["_law_graph_here", "_law_nodes", "_law_cells", "_law_way"]) F5 rfl (fun _ _ _ _ _ _ _ _ _ _ => rfl), PySem.W.mg_of X G a5, F6, bd2 (ps := ["_law_cells", "_law_most"]) F6 rfl (fun _ _ _ _ _ _ _ _ => rfl), PySem.W.mg_of X G a6, F7, bd1 (ps := ["_law_graph_here"]) F7 rfl (fun _ _ _ _ _ _ _ => rfl), PySem.W.mg_of X G a7, F8, bd1 (ps := ["_law_thing"]) F8 rfl (fun _ _ _ _ _ _ _ => rfl), PySem.W.mg_of X G a8, F9, bd2 (ps := ["_law_found", "_law_graph_here"]) F9 rfl (fun _ _ _ _ _ _ _ _ => rfl), PySem.W.mg_of X G a9, F10, bd2 (ps := ["_law_found", "_law_graph_here"]) F10 rfl (fun _ _ _ _ _ _ _ _ => rfl), PySem.W.mg_of X G a10, F11, bd1 (ps := ["_law_graph_here"]) F11 rfl (fun _ _ _ _ _ _ _ => rfl), PySem.W.mg_of X G a11, F12, bd1 (ps := ["_law_script"]) F12 rfl (fun _ _ _ _ _ _ _ => rfl), PySem.W.mg_of X G a12, PySem.W.mg_none_of X G z_ValueError, PySem.W.mg_none_of X G z_bool, PySem.W.mg_none_of X G z_int, PySem.W.mg_none_of X G z_isinstance, PySem.W.mg_none_of X G z_len, PySem.W.mg_none_of X G z_list, PySem.W.mg_none_of X G z_range, PySem.W.mg_none_of X G z_sorted, PySem.W.mg_none_of X G z_str, PySem.W.mg_none_of X G z_sum, PySem.W.mg_none_of X G z_tuple, PySem.W.mg_of X G m_LeafError, PySem.W.mg_of X G m_NoText, PySem.W.mg_of X G m_TooGreat, PySem.W.mg_of X G m_NoName, PySem.W.mg_of X G m_NoRule, PySem.W.mg_of X G m_NoKind, PySem.W.mg_of X G m_NoTree, PySem.W.mg_of X G m_NoPlace, PySem.W.mg_of X G m_NoGiven, PySem.W.mg_of X G m_NoWalk, PySem.W.mg_of X G m_Ring, ⟨rex_Ring, rini_Ring, rfn_Ring, rsa_Ring, rov_Ring, rrg_Ring, rhd_Ring, xga_Ring, xgt_Ring, xca_Ring, xsp_Ring, xtk_Ring, xmo_Ring, xmb_Ring⟩, u_Ring_Ring, i_Ring_0, i_Ring_1, i_Ring_2⟩⟩
end K31
namespace K31
open PySem L2
theorem get_snoc {α : Type} {l : List α} {x : α} {t : Nat} (h : t < l.length) : (l ++ [x])[t]? = l[t]? := List.getElem?_append_left h
theorem nd_subV : ∀ {l m : List V}, l.Nodup -> (∀ x ∈ l, x ∈ m) -> l.length <= m.length
  | [], _, _, _ => Nat.zero_le _
  | x :: l, m, h, hs => by
    obtain ⟨h1, h2⟩ := List.nodup_cons.mp h
    have hx := hs x List.mem_cons_self
    have := nd_subV (m := m.erase x) h2 fun y hy => (List.mem_erase_of_ne (fun z => h1 (by rw [<- z]; exact hy))).mpr (hs y (List.mem_cons_of_mem _ hy))
    rw [List.length_erase_of_mem hx] at this
    have : 0 < m.length := List.length_pos_of_mem hx
    rw [List.length_cons]
    omega
end K31
namespace K31
open PySem L2
theorem len_listS (a : Str) : a.length = a.cps.toList.length := by simp [Str.length]
theorem app_listS (a b : Str) : (a ++ b).cps.toList = a.cps.toList ++ b.cps.toList := by
  show (a.cps ++ b.cps).toList = _
  simp
theorem app_lenS (a b : Str) : (a ++ b).length = a.length + b.length := by rw [len_listS, len_listS, len_listS, app_listS, List.length_append]
abbrev letters26 : Str := "abcdefghijklmnopqrstuvwxyz"
def ltr (i : Int) : Nat := letters26.cps.toList.getD (i % 26).toNat 97
theorem at_let (i : Int) : atI letters26.cps.toList (i % 26) = some (ltr i) := by
  unfold ltr
  have h0 := Int.emod_nonneg i (show (26 : Int) ≠ 0 by decide)
  have h1 := Int.emod_lt_of_pos i (show (0 : Int) < 26 by decide)
  generalize i % 26 = m at h0 h1
  obtain ⟨k, rfl⟩ := Int.eq_ofNat_of_zero_le h0
  have hl : letters26.cps.toList.length = 26 := by decide +kernel
  have hk : k < letters26.cps.toList.length := by omega
  have e : letters26.cps.toList.getD (Int.toNat (k : Int)) 97 = letters26.cps.toList[k] := by
    rw [List.getD_eq_getElem?_getD, show Int.toNat (k : Int) = k from rfl, List.getElem?_eq_getElem hk]
    rfl
  rw [e]
  exact atI_nat (List.getElem?_eq_getElem hk)
theorem let_inj : ∀ i < 26, ∀ j < 26, letters26.cps.toList.getD i 97 = letters26.cps.toList.getD j 97 -> i = j := by decide +kernel
theorem ltr_inj {k j : Int} (e : ltr k = ltr j) : k % 26 = j % 26 := by
  unfold ltr at e
  have := let_inj _ (by omega) _ (by omega) e
  omega
theorem mul1_len (g : Nat) {n : Int} (h0 : 0 <= n) : ((Txt.mul ⟨#[g]⟩ n).length : Int) = n := by
  have e := PyProof.Rows.len_mul ⟨#[g]⟩ n
  have e1 : (Str.length ⟨#[g]⟩) = 1 := rfl
  rw [e1, if_neg (by simpa using h0)] at e
  omega
def sme (c : Int) : Str := Txt.mul ⟨#[ltr (c / 5)]⟩ (c / 130 % 3)
def one1 (k : Int) : Str := ⟨#[ltr k]⟩
def two1 (k : Int) : Str := ⟨#[ltr (k / 26)]⟩
def wrd (c k : Int) : Str := sme c ++ one1 k ++ sme c ++ two1 k
theorem wrd_inj {c k j : Int} (h0 : 0 <= k) (h1 : k < 40) (g0 : 0 <= j) (g1 : j < 40) (e : wrd c k = wrd c j) : k = j := by
  have e : (wrd c k).cps.toList = (wrd c j).cps.toList := by rw [e]
  unfold wrd at e
  rw [app_listS, app_listS, app_listS, app_listS, app_listS, app_listS] at e
  obtain ⟨e1, e2⟩ := List.append_inj' e rfl
  have e3 := List.append_cancel_left (List.append_cancel_right e1)
  unfold one1 at e3
  unfold two1 at e2
  have a1 := ltr_inj (k := k) (j := j) (by simpa using e3)
  have a2 := ltr_inj (k := k / 26) (j := j / 26) (by simpa using e2)
  omega
def wayOf (c k : Int) : Int := if c % 5 = 4 then (c / 390 + k * k) % 4 else c % 5
def ptk (i : Int) : List Key := if i = 0 then [] else if i = 1 then [.inl 1] else if i = 2 then [.inl 1, .inl 2] else [.inl 2, .inl 1, .inl 1]
def nkW (w c k : Int) : NK :=
  if w = 0 then .inl (.inl (c / 390 % 1000000000000 + k - 20)) else if w = 1 then .inl (.inr (wrd c k)) else if w = 2 then .inr (.inr (ptk (k % 4), .inr (wrd c k))) else if k = 0 then .inr (.inl []) else .inr (.inl [.inl (k % 4), .inr (wrd c k)])
def nk (c k : Int) : NK := nkW (wayOf c k) c k
theorem nk_inj {c k j : Int} (h0 : 0 <= k) (h1 : k < 40) (g0 : 0 <= j) (g1 : j < 40) (e : nk c k = nk c j) : k = j := by
  have W := wrd_inj (c := c) h0 h1 g0 g1
  unfold nk nkW at e
  generalize wayOf c k = a at e
  generalize wayOf c j = b at e
  by_cases a0 : a = 0
  · rw [if_pos a0] at e
    by_cases b0 : b = 0
    · rw [if_pos b0] at e
      have := Sum.inl.inj (Sum.inl.inj e)
      omega
    · rw [if_neg b0] at e
      split at e
      · exact nomatch Sum.inl.inj e
      · split at e
        · exact nomatch e
        · split at e <;> exact nomatch e
  rw [if_neg a0] at e
  by_cases a1 : a = 1
  · rw [if_pos a1] at e
    split at e
    · exact nomatch Sum.inl.inj e
    · split at e
      · exact W (Sum.inr.inj (Sum.inl.inj e))
      · split at e
        · exact nomatch e
        · split at e <;> exact nomatch e
  rw [if_neg a1] at e
  by_cases a2 : a = 2
  · rw [if_pos a2] at e
    split at e
    · exact nomatch e
    · split at e
      · exact nomatch e
      · split at e
        · exact W (Sum.inr.inj (Prod.mk.inj (Sum.inr.inj (Sum.inr.inj e))).2)
        · split at e <;> exact nomatch Sum.inr.inj e
  rw [if_neg a2] at e
  by_cases k0 : k = 0
  · rw [if_pos k0] at e
    split at e
    · exact nomatch e
    · split at e
      · exact nomatch e
      · split at e
        · exact nomatch Sum.inr.inj e
        · by_cases j0 : j = 0
          · omega
          · rw [if_neg j0] at e
            exact nomatch Sum.inl.inj (Sum.inr.inj e)
  rw [if_neg k0] at e
  split at e
  · exact nomatch e
  · split at e
    · exact nomatch e
    · split at e
      · exact nomatch Sum.inr.inj e
      · by_cases j0 : j = 0
        · rw [if_pos j0] at e
          exact nomatch Sum.inl.inj (Sum.inr.inj e)
        · rw [if_neg j0] at e
          have := List.cons.inj (List.cons.inj (Sum.inl.inj (Sum.inr.inj e))).2
          exact W (Sum.inr.inj this.1)
theorem seq_join {t rest : TS} {D : Ends} {σ : St} {H : Hp} (R0 : St -> Hp -> Prop) (key : ∀ σ' H', R0 σ' H' -> rest D σ' H') (k : ∀ F : St -> Hp -> Prop, (∀ σ' H', R0 σ' H' -> F σ' H') -> t { D with nx := F } σ H) : tSeq t rest D σ H := k (rest D) key
theorem seq_setC {v : V} {i : Nat} {rest : TS} {D : Ends} {σ : St} {H : Hp} (h : rest D (σ.set i (some v)) H) : tSeq (tAsg (tC v) (gName i)) rest D σ H := h
theorem dI (i j : Int) : decide (V.int i = V.int j) = decide (i = j) := decide_eq_decide.mpr ⟨V.int.inj, fun h => by rw [h]⟩
def spNode : Sp := fun vs H Q _ => ∃ c k : Int, vs = [.int c, .int k] /\ 0 <= k /\ k < 40 /\ ∀ v H', Same H H' -> keyN H' (nk c k) v -> Q v H'
section
variable {P : Program} {w : World} {K : PySem.W.Frag} {mg : Str -> Option Value} {base : Heap} {T : Adr}
theorem ok_node (X : Tx K mg T) : FnOk P w K mg base CX0 1 T.qnode T.d_qnode ["_law_cell", "_law_k"] spNode := by
  refine X.F_qnode.okQ sc_qnode (fun vs H Q E h => ?_) (fun cdv A outer s H vs Q E hr h => ?_)
  · obtain ⟨_, _, rfl, _⟩ := h
    rfl
  obtain ⟨c, k, rfl, k0, k26, q⟩ := h
  refine ⟨_, (qss_cons (qs_set (i := 2) sc_qnode.nd rfl (Or.inl rfl) qe_str) (qss_cons (qs_set (i := 3) sc_qnode.nd rfl (Or.inl rfl) (qe_op op_rep_str (qe_ix ix_str (qv 2) (qe_op op_mod (qe_op op_fdiv (qv 0) qe_int) qe_int) (fun _ _ => rfl)) (qe_op op_mod (qe_op op_fdiv (qv 0) qe_int) qe_int))) (qss_cons (qs_set (i := 4) sc_qnode.nd rfl (Or.inl rfl) (qe_op op_add_str (qe_op op_add_str (qe_op op_add_str (qv 3) (qe_ix ix_str (qv 2) (qe_op op_mod (qv 1) qe_int) (fun _ _ => rfl))) (qv 3)) (qe_ix ix_str (qv 2) (qe_op op_fdiv (qv 1) qe_int) (fun _ _ => rfl)))) (qss_cons (qs_set (i := 5) sc_qnode.nd rfl (Or.inl rfl) (qe_op op_mod (qv 0) qe_int)) (qss_cons (qs_if (qt_cmpR op_eq (qv 5) qe_int (nomark _)) (qss_one (qs_set (i := 5) sc_qnode.nd rfl (Or.inl rfl) (qe_op op_mod (qe_op op_add (qe_op op_fdiv (qv 0) qe_int) (qe_op op_mul (qv 1) (qv 1))) qe_int))) qss_nil) (qss_cons (qs_if (qt_cmpR op_eq (qv 5) qe_int (nomark _)) (qss_one (qs_ret (qe_op op_sub (qe_op op_add (qe_op op_mod (qe_op op_fdiv (qv 0) qe_int) (qe_op op_pow qe_int qe_int)) (qv 1)) qe_int))) qss_nil) (qss_cons (qs_if (qt_cmpR op_eq (qv 5) qe_int (nomark _)) (qss_one (qs_ret (qv 4))) qss_nil) (qss_cons (qs_if (qt_cmpR op_eq (qv 5) qe_int (nomark _)) (qss_one (qs_ret (qe_tup (qaS (qe_ix ix_tup (qe_tup (qaT (qe_tup qa_nil) (qaT (qe_tup (qaC qe_int qa_nil)) (qaT (qe_tup (qaC qe_int (qaC qe_int qa_nil))) (qaT (qe_tup (qaC qe_int (qaC qe_int (qaC qe_int qa_nil)))) qa_nil))))) (qe_op op_mod (qv 1) qe_int) (fun _ _ => rfl)) (qaN (qv 4) qa_nil))))) qss_nil) (qss_cons (qs_if (qt_cmpR op_eq (qv 1) qe_int (nomark _)) (qss_one (qs_ret (qe_tup qa_nil))) qss_nil) (qss_one (qs_ret (qe_tup (qaB (qe_op op_mod (qv 1) qe_int) (qaN (qv 4) qa_nil)))))))))))))), ?_⟩
  have hg1 := at_let (c / 5)
  have hg2 := at_let k
  have hg3 : atI letters26.cps.toList (k / 26) = some (ltr (k / 26)) := by
    have := at_let (k / 26)
    rwa [Int.emod_eq_of_lt (by omega) (by omega)] at this
  have e1 : (Str.length ⟨#[ltr (c / 5)]⟩) = 1 := rfl
  have l1 : ((sme c).length : Int) = c / 130 % 3 := mul1_len (ltr (c / 5)) (n := c / 130 % 3) (by omega)
  have l2 : (one1 k).length = 1 := rfl
  refine seq_setC ?_
  refine ⟨_, rfl, _, rfl, _, _, rfl, rfl, ⟨by decide, by decide⟩, _, _, rfl, rfl, (by show (0 : Int) < 26; decide), letters26, _, ltr (c / 5), rfl, rfl, (by decide +kernel), hg1, _, rfl, _, _, rfl, rfl, ⟨by decide, by decide⟩, _, _, rfl, rfl, (by show (0 : Int) < 3; decide), _, _, rfl, rfl, (by rw [e1]; decide), by omega, by omega, ?_⟩
  rw [show Txt.mul ⟨#[ltr (c / 5)]⟩ (c / 130 % 3) = sme c from rfl]
  refine ⟨_, rfl, _, rfl, _, rfl, _, _, rfl, rfl, (by show (0 : Int) < 26; decide), letters26, _, ltr k, rfl, rfl, (by decide +kernel), hg2, _, _, rfl, rfl, fits2 (by show (sme c).length + 1 <= 100000; omega), _, rfl, _, _, rfl, rfl, fits2 (by rw [app_lenS]; show (sme c).length + 1 + (sme c).length <= 100000; omega), _, rfl, _, rfl, _, _, rfl, rfl, ⟨by decide, by decide⟩, letters26, _, ltr (k / 26), rfl, rfl, (by decide +kernel), hg3, _, _, rfl, rfl, fits2 (by rw [app_lenS, app_lenS]; show (sme c).length + 1 + (sme c).length + 1 <= 100000; omega), ?_⟩
  rw [show sme c ++ (⟨#[ltr k]⟩ : Str) ++ sme c ++ (⟨#[ltr (k / 26)]⟩ : Str) = wrd c k from rfl]
  have hK : ∀ v H', Same H H' -> keyN H' (nkW (wayOf c k) c k) v -> Q v H' := q
  unfold nkW at hK
  generalize wrd c k = W at hK ⊢
  generalize sme c = S
  refine ⟨_, rfl, _, _, rfl, rfl, (by show (0 : Int) < 5; decide), ?_⟩
  dsimp only [gName]
  refine seq_join (fun σ' H' => H' = H /\ σ' = [some (.int c), some (.int k), some (.str letters26), some (.str S), some (.str W), some (.int (wayOf c k))]) ?_ (fun F hF => ?_)
  · rintro σ' H9 ⟨e9, rfl⟩
    rw [e9]
    generalize wayOf c k = y at hK ⊢
    refine ⟨_, rfl, rfl, _, rfl, ?_⟩
    dsimp only
    rw [dI]
    refine iteD (fun y0 => ?_) (fun y0 => ?_)
    · rw [if_pos y0] at hK
      refine ⟨_, rfl, _, _, rfl, rfl, ⟨by decide, by decide⟩, _, _, rfl, rfl, ⟨by decide, by decide, by decide⟩, _, _, rfl, rfl, (by show (0 : Int) < 10 ^ Int.toNat 12; decide), _, rfl, _, _, rfl, rfl, _, _, rfl, rfl, ?_⟩
      exact hK _ _ (Same.refl _) rfl
    rw [if_neg y0] at hK
    refine ⟨_, rfl, rfl, _, rfl, ?_⟩
    dsimp only
    rw [dI]
    refine iteD (fun y1 => ?_) (fun y1 => ?_)
    · rw [if_pos y1] at hK
      exact ⟨_, rfl, hK _ _ (Same.refl _) rfl⟩
    rw [if_neg y1] at hK
    refine ⟨_, rfl, rfl, _, rfl, ?_⟩
    dsimp only
    rw [dI]
    refine iteD (fun y2 => ?_) (fun y2 => ?_)
    · rw [if_pos y2] at hK
      refine ⟨(by show 0 <= sizeLine; decide), fun p0 h0 => ?_⟩
      refine ⟨(by show 1 <= sizeLine; decide), fun p1 h1 => ?_⟩
      refine ⟨(by show 2 <= sizeLine; decide), fun p2 h2 => ?_⟩
      refine ⟨(by show 3 <= sizeLine; decide), fun p3 h3 => ?_⟩
      refine ⟨(by show 4 <= sizeLine; decide), fun p4 h4 => ?_⟩
      have s0 := same_new h0 (.tup [])
      have s1 := same_new h1 (.tup [.int 1])
      have s2 := same_new h2 (.tup [.int 1, .int 2])
      have s3 := same_new h3 (.tup [.int 2, .int 1, .int 1])
      have s4 := same_new h4 (.tup [.ref p0, .ref p1, .ref p2, .ref p3])
      have a3 := upd_same (H := upd (upd (upd H p0 (.tup [])) p1 (.tup [.int 1])) p2 (.tup [.int 1, .int 2])) (a := p3) (o := .tup [.int 2, .int 1, .int 1])
      have a2 := s3 _ _ (upd_same (H := upd (upd H p0 (.tup [])) p1 (.tup [.int 1])) (a := p2) (o := .tup [.int 1, .int 2]))
      have a1 := s3 _ _ (s2 _ _ (upd_same (H := upd H p0 (.tup [])) (a := p1) (o := .tup [.int 1])))
      have a0 := s3 _ _ (s2 _ _ (s1 _ _ (upd_same (H := H) (a := p0) (o := .tup []))))
      have sA := ((s0.trans s1).trans s2).trans s3
      generalize upd (upd (upd (upd H p0 (.tup [])) p1 (.tup [.int 1])) p2 (.tup [.int 1, .int 2])) p3 (.tup [.int 2, .int 1, .int 1]) = H4 at *
      have a4 := upd_same (H := H4) (a := p4) (o := .tup [.ref p0, .ref p1, .ref p2, .ref p3])
      have b0 := s4 _ _ a0
      have b1 := s4 _ _ a1
      have b2 := s4 _ _ a2
      have b3 := s4 _ _ a3
      have sB := sA.trans s4
      generalize upd H4 p4 (.tup [.ref p0, .ref p1, .ref p2, .ref p3]) = H5 at *
      obtain ⟨b, hb1, hb2⟩ : ∃ b, atI [V.ref p0, V.ref p1, V.ref p2, V.ref p3] (k % 4) = some (.ref b) /\ H5 b = some (.tup ((ptk (k % 4)).map kV)) := by
        have m0 := Int.emod_nonneg k (show (4 : Int) ≠ 0 by decide)
        have m1 := Int.emod_lt_of_pos k (show (0 : Int) < 4 by decide)
        generalize k % 4 = m at m0 m1
        obtain rfl | rfl | rfl | rfl : m = 0 \/ m = 1 \/ m = 2 \/ m = 3 := by omega
        · exact ⟨p0, rfl, b0⟩
        · exact ⟨p1, rfl, b1⟩
        · exact ⟨p2, rfl, b2⟩
        · exact ⟨p3, rfl, b3⟩
      refine ⟨_, rfl, _, _, rfl, rfl, (by show (0 : Int) < 4; decide), p4, _, _, .ref b, rfl, rfl, SqT.of a4, hb1, _, rfl, (by show 2 <= sizeLine; decide), fun p5 h5 => ?_⟩
      have s5 := same_new h5 (.tup [.ref b, .str W])
      exact hK _ _ (sB.trans s5) ⟨p5, rfl, b, upd_same, s5 _ _ hb2⟩
    rw [if_neg y2] at hK
    refine ⟨_, rfl, rfl, _, rfl, ?_⟩
    dsimp only
    rw [dI]
    refine iteD (fun z0 => ?_) (fun z0 => ?_)
    · rw [if_pos z0] at hK
      refine ⟨(by show 0 <= sizeLine; decide), fun p0 h0 => ?_⟩
      exact hK _ _ (same_new h0 _) ⟨p0, rfl, upd_same⟩
    rw [if_neg z0] at hK
    refine ⟨_, rfl, _, _, rfl, rfl, (by show (0 : Int) < 4; decide), _, rfl, (by show 2 <= sizeLine; decide), fun p0 h0 => ?_⟩
    exact hK _ _ (same_new h0 _) ⟨p0, rfl, upd_same⟩
  · refine ⟨_, rfl, rfl, _, rfl, ?_⟩
    dsimp only
    rw [dI]
    refine iteD (fun h4 => ?_) (fun h4 => ?_)
    · refine ⟨_, rfl, _, _, rfl, rfl, ⟨by decide, by decide⟩, _, rfl, _, rfl, _, _, rfl, rfl, .inl ⟨by omega, by omega⟩, _, _, rfl, rfl, _, _, rfl, rfl, (by show (0 : Int) < 4; decide), ?_⟩
      exact hF _ _ ⟨rfl, by unfold wayOf; rw [if_pos h4]; rfl⟩
    · exact hF _ _ ⟨rfl, by unfold wayOf; rw [if_neg h4]; rfl⟩
end
end K31
namespace K31
open PySem L2
structure GB (P : Program) (w : World) (κ : V -> NK) (H : Hp) (g : Addr) (vs : List V) (l : V -> Addr) (E : V -> List V) (b : Nat) : Prop where
  d : DV P w κ H g vs (fun v => .ref (l v))
  at_ : ∀ v ∈ vs, H (l v) = some (.lst (E v))
  sub : ∀ v ∈ vs, ∀ u ∈ E v, u ∈ vs
  len : ∀ v ∈ vs, (E v).length <= b
  inj : ∀ u ∈ vs, ∀ v ∈ vs, l u = l v -> u = v
def appE (E : V -> List V) (v x : V) : V -> List V := fun u => if u = v then E v ++ [x] else E u
def Ow (vs : List V) (l : V -> Addr) (H H' : Hp) : Prop := ∀ a o, H a = some o -> (∀ v ∈ vs, a ≠ l v) -> H' a = some o
section
variable {P : Program} {w : World} {κ : V -> NK} {H H' H1 : Hp} {g : Addr} {vs us : List V} {l : V -> Addr} {E : V -> List V} {b c : Nat} {v x : V}
theorem GB.gr (h : GB P w κ H g vs l E b) (hb : b <= 300) : Gr P w κ H g vs l E := ⟨h.d, h.at_, h.sub, fun v hv => Nat.le_trans (h.len v hv) hb⟩
theorem GB.mono (h : GB P w κ H g vs l E b) (hb : b <= c) : GB P w κ H g vs l E c := ⟨h.d, h.at_, h.sub, fun v hv => Nat.le_trans (h.len v hv) hb, h.inj⟩
theorem GB.app (h : GB P w κ H g vs l E b) (hv : v ∈ vs) (hx : x ∈ vs) : GB P w κ (upd H (l v) (.lst (E v ++ [x]))) g vs l (appE E v x) (b + 1) := by
  refine ⟨DN.lset h.d (h.at_ v hv), fun u hu => ?_, fun u hu y hy => ?_, fun u hu => ?_, h.inj⟩
  · unfold appE
    by_cases e : u = v
    · subst e
      rw [if_pos rfl]
      exact upd_same
    · rw [if_neg e, upd_ne fun z => e (h.inj u hu v hv z)]
      exact h.at_ u hu
  · unfold appE at hy
    by_cases e : u = v
    · rw [if_pos e] at hy
      rcases List.mem_append.mp hy with z | z
      · exact h.sub v hv y z
      · rw [List.mem_singleton.mp z]; exact hx
    · rw [if_neg e] at hy
      exact h.sub u hu y hy
  · have h1 := h.len u hu
    have h2 := h.len v hv
    unfold appE
    by_cases e : u = v
    · rw [if_pos e, List.length_append, List.length_singleton]; omega
    · rw [if_neg e]; omega
theorem Ow.refl : Ow vs l H H := fun a o h _ => h
theorem Ow.set (h : Ow vs l H H') {o : HO} (hv : v ∈ vs) : Ow vs l H (upd H' (l v) o) := fun a p e n => by
  rw [upd_ne (n v hv)]
  exact h a p e n
theorem Ow.trans (h : Ow vs l H H') (s : Ow vs l H' H1) : Ow vs l H H1 := fun a p e n => s _ _ (h a p e n) n
theorem Ow.nd (h : Ow vs l H H') (g : GB P w κ H g vs l E b) (n : Nd H κ us) : Nd H' κ us := n.to fun a ys e => h a _ e fun v hv z => by
  subst z
  rw [g.at_ v hv] at e
  cases e
theorem Ow.keep {n : Addr} {ys : List V} (h : Ow vs l H H') (e : H n = some (.lst ys)) (hn : ∀ v ∈ vs, n ≠ l v) : H' n = some (.lst ys) := h n _ e hn
end
def spEdges (P : Program) (w : World) : Sp := fun as H Q _ => ∃ (g n cs : Addr) (κ : V -> NK) (vs : List V) (l : V -> Addr) (E : V -> List V) (b : Nat) (ns : List V) (cells : List Int) (y : Int), as = [.ref g, .ref n, .ref cs, .int y] /\ Nd H κ vs /\ GB P w κ H g vs l E b /\ H n = some (.lst ns) /\ ns ≠ [] /\ ns.length <= 50 /\ (∀ u ∈ ns, u ∈ vs) /\ H cs = some (.lst (cells.map V.int)) /\ (∀ v ∈ vs, n ≠ l v /\ cs ≠ l v) /\ b + 2 * cells.length <= 300 /\
  ∀ E' H', Ow vs l H H' -> GB P w κ H' g vs l E' (b + 2 * cells.length) -> Q .non H'
section
variable {P : Program} {w : World} {K : PySem.W.Frag} {mg : Str -> Option Value} {base : Heap} {T : Adr}
theorem ok_edges (X : Tx K mg T) : FnOk P w K mg base CX0 1 T.qedges T.d_qedges ["_law_graph_here", "_law_nodes", "_law_cells", "_law_way"] (spEdges P w) := by
  refine X.F_qedges.okQ sc_qedges (fun vs H Q E h => ?_) (fun cdv A outer s H vs Q E hr h => ?_)
  · obtain ⟨_, _, _, _, _, _, _, _, _, _, _, rfl, _⟩ := h
    rfl
  obtain ⟨g, n, cs, κ, vs, l, E, b, ns, cells, y, rfl, nd, gb, hn, nn, l50, nsub, hc, nl, hb, q⟩ := h
  refine ⟨_, (qss_cons (qs_set (i := 4) sc_qedges.nd rfl (Or.inl rfl) (qe_callB call_len_seq rfl X.z_len PySem.boot_len (qaN (qv 1) qa_nil))) (qss_one (qs_for PassesOwn.never rfl (qi_list (qv 2)) (qg_name (i := 5) sc_qedges.nd rfl (Or.inl rfl)) (qss_cons (qs_set (i := 6) sc_qedges.nd rfl (Or.inl rfl) (qe_op op_mod (qv 5) (qv 4))) (qss_cons (qs_set (i := 7) sc_qedges.nd rfl (Or.inl rfl) (qe_op op_mod (qe_op op_fdiv (qv 5) (qv 4)) (qv 4))) (qss_cons (qs_if (qw_pt (qw_and (qt_cmpR op_lt (qv 3) qe_int (nomark _)) (qw_and1 (qt_cmpR op_lt (qv 6) (qv 7) (nomark _))))) (qss_one (qs_par (i := 6) (j := 7) rfl sc_qedges.nd rfl rfl (by decide) rfl rfl (qaN (qv 7) (qaN (qv 6) qa_nil)) rfl)) qss_nil) (qss_cons (qs_if (qw_pt (qw_or (qt_cmpR op_eq (qv 3) qe_int (nomark _)) (qw_or1 (qt_cmpR op_ne (qv 6) (qv 7) (nomark _))))) (qss_one (qs_expr (qe_bm PySem.F.plainAttrs_list PySem.F.slot_list_append PySem.F.type_list_append mt_append (qe_dgetN hr.un80 (qv 0) (qe_ix ix_list (qv 1) (qv 6) (fun _ _ => rfl))) (qaS (qe_ix ix_list (qv 1) (qv 7) (fun _ _ => rfl)) qa_nil)))) qss_nil) (qss_one (qs_if (qw_pt (qw_and (qt_cmpR op_eq (qe_op op_mod (qe_op op_fdiv (qe_op op_fdiv (qv 5) (qv 4)) (qv 4)) qe_int) qe_int (nomark _)) (qw_and1 (qt_cmpR op_ne (qv 6) (qv 7) (nomark _))))) (qss_one (qs_expr (qe_bm PySem.F.plainAttrs_list PySem.F.slot_list_append PySem.F.type_list_append mt_append (qe_dgetN hr.un80 (qv 0) (qe_ix ix_list (qv 1) (qv 6) (fun _ _ => rfl))) (qaS (qe_ix ix_list (qv 1) (qv 7) (fun _ _ => rfl)) qa_nil)))) qss_nil))))))))), ?_⟩
  refine ⟨_, rfl, n, _, rfl, .inl (SqL.of hn), ?_⟩
  refine ⟨_, rfl, cs, rfl, ⟨_, SqL.of hc⟩, ?_⟩
  have hpos : 0 < ns.length := List.length_pos_iff.mpr nn
  refine for_list (xs := cells.map V.int) (fun i σ H' => ∃ (E' : V -> List V) (x5 x6 x7 : Option V), i <= cells.length /\ σ = [some (.ref g), some (.ref n), some (.ref cs), some (.int y), some (.int ns.length), x5, x6, x7] /\ Ow vs l H H' /\ GB P w κ H' g vs l E' (b + 2 * i))
    ⟨E, none, none, none, Nat.zero_le _, rfl, Ow.refl, gb⟩ (fun i σ H' _ ⟨_, _, _, _, _, _, ow, _⟩ => SqL.of (ow.keep hc fun v hv => (nl v hv).2)) ?_ ?_
  · rintro i x σ H1 hx ⟨E1, x5, x6, x7, hi, rfl, ow, gb1⟩
    have hi2 := lt_of_some hx
    rw [List.length_map] at hi2
    obtain ⟨c, hcx, rfl⟩ := List.mem_map.mp (List.mem_of_getElem? hx)
    refine ⟨_, rfl, _, rfl, _, _, rfl, rfl, (by show (0 : Int) < ns.length; omega), ?_⟩
    refine ⟨_, rfl, _, rfl, _, _, rfl, rfl, ⟨by omega, by omega⟩, _, rfl, _, _, rfl, rfl, (by show (0 : Int) < ns.length; omega), ?_⟩
    dsimp only [gName]
    have hm : (ns.length : Int) ≠ 0 := by omega
    have hp : (0 : Int) < ns.length := by omega
    have a0 := Int.emod_nonneg c hm
    have a1 := Int.emod_lt_of_pos c hp
    have b0 := Int.emod_nonneg (c / (ns.length : Int)) hm
    have b1 := Int.emod_lt_of_pos (c / (ns.length : Int)) hp
    refine seq_join (fun σ' H' => H' = H1 /\ ∃ a d : Int, 0 <= a /\ a < ns.length /\ 0 <= d /\ d < ns.length /\ σ' = [some (.ref g), some (.ref n), some (.ref cs), some (.int y), some (.int ns.length), some (.int c), some (.int a), some (.int d)]) ?_ (fun F hF => ?_)
    · rintro σ' H9 ⟨e9, a, d, a0, a1, d0, d1, rfl⟩
      rw [e9]
      obtain ⟨va, hva, ma⟩ := atI_in a0 a1
      obtain ⟨vd, hvd, md⟩ := atI_in d0 d1
      have va' := nsub va ma
      have vd' := nsub vd md
      clear a0 a1 b0 b1
      refine seq_join (fun σ' H' => ∃ E2, σ' = [some (.ref g), some (.ref n), some (.ref cs), some (.int y), some (.int ns.length), some (.int c), some (.int a), some (.int d)] /\ Ow vs l H H' /\ GB P w κ H' g vs l E2 (b + 2 * i + 1)) ?_ (fun F hF => ?_)
      · rintro σ' H2 ⟨E2, rfl, ow2, gb2⟩
        have nd2 := ow2.nd gb nd
        have hn2 := ow2.keep hn fun v hv => (nl v hv).1
        refine ⟨_, rfl, _, rfl, _, _, rfl, rfl, ⟨by omega, by omega⟩, _, rfl, _, _, rfl, rfl, ⟨by omega, by omega⟩, _, _, rfl, rfl, (by show (0 : Int) < 7; decide), rfl, _, rfl, ?_⟩
        dsimp only
        have done : ∃ (E' : V -> List V) (x5 x6 x7 : Option V), i + 1 <= cells.length /\ [some (.ref g), some (.ref n), some (.ref cs), some (.int y), some (.int ns.length), some (.int c), some (.int a), some (.int d)] = [some (V.ref g), some (.ref n), some (.ref cs), some (.int y), some (.int ns.length), x5, x6, x7] /\ Ow vs l H H2 /\ GB P w κ H2 g vs l E' (b + 2 * (i + 1)) := ⟨E2, _, _, _, hi2, rfl, ow2, gb2.mono (by omega)⟩
        refine iteDd (fun _ => ?_) (fun _ => done)
        refine ⟨_, rfl, _, rfl, rfl, _, rfl, ?_⟩
        refine iteND (fun _ => ?_) (fun _ => done)
        have hat := gb2.at_ va va'
        refine ⟨_, rfl, _, rfl, _, rfl, n, _, _, va, rfl, rfl, SqL.of hn2, hva, g, _, κ va, _, rfl, gb2.d, nd2.key va va', nd2.val (fun _ h => h) va', .inl ⟨rfl, _, SqL.of hat⟩, _, rfl, _, rfl, n, _, _, vd, rfl, rfl, SqL.of hn2, hvd, l va, _, vd, rfl, rfl, hat, Nat.lt_of_le_of_lt (Nat.le_trans (gb2.len va va') (show b + 2 * i + 1 <= 1000 by omega)) (by decide), ?_⟩
        exact ⟨_, _, _, _, hi2, rfl, ow2.set va', (gb2.app va' vd').mono (by omega)⟩
      · have nd1 := ow.nd gb nd
        have hn1 := ow.keep hn fun v hv => (nl v hv).1
        have hat := gb1.at_ va va'
        have no := hF _ _ ⟨E1, rfl, ow, gb1.mono (by omega)⟩
        have yes := hF _ _ ⟨appE E1 va vd, rfl, ow.set va', gb1.app va' vd'⟩
        refine ⟨_, rfl, rfl, _, rfl, ?_⟩
        refine iteDd (fun _ => ?_) (fun _ => ?_)
        · refine iteY rfl ?_
          refine ⟨_, rfl, _, rfl, _, rfl, n, _, _, va, rfl, rfl, SqL.of hn1, hva, g, _, κ va, _, rfl, gb1.d, nd1.key va va', nd1.val (fun _ h => h) va', .inl ⟨rfl, _, SqL.of hat⟩, _, rfl, _, rfl, n, _, _, vd, rfl, rfl, SqL.of hn1, hvd, l va, _, vd, rfl, rfl, hat, Nat.lt_of_le_of_lt (Nat.le_trans (gb1.len va va') (show b + 2 * i <= 1000 by omega)) (by decide), ?_⟩
          exact yes
        · refine ⟨_, rfl, _, rfl, rfl, _, rfl, ?_⟩
          refine iteND (fun _ => ?_) (fun _ => no)
          refine ⟨_, rfl, _, rfl, _, rfl, n, _, _, va, rfl, rfl, SqL.of hn1, hva, g, _, κ va, _, rfl, gb1.d, nd1.key va va', nd1.val (fun _ h => h) va', .inl ⟨rfl, _, SqL.of hat⟩, _, rfl, _, rfl, n, _, _, vd, rfl, rfl, SqL.of hn1, hvd, l va, _, vd, rfl, rfl, hat, Nat.lt_of_le_of_lt (Nat.le_trans (gb1.len va va') (show b + 2 * i <= 1000 by omega)) (by decide), ?_⟩
          exact yes
    · have no := hF _ _ ⟨rfl, _, _, a0, a1, b0, b1, rfl⟩
      have yes := hF _ _ ⟨rfl, _, _, b0, b1, a0, a1, rfl⟩
      refine ⟨_, rfl, _, _, rfl, rfl, _, rfl, ?_⟩
      refine iteDd (fun _ => ?_) (fun _ => no)
      refine ⟨_, rfl, _, rfl, _, _, rfl, rfl, _, rfl, ?_⟩
      refine iteDd (fun _ => ?_) (fun _ => no)
      exact ⟨_, rfl, _, rfl, _, _, rfl, yes⟩
  · rintro σ H' ⟨E', x5, x6, x7, _, rfl, ow, gb'⟩
    rw [List.length_map] at gb'
    exact q E' H' ow gb'
end
end K31
namespace K31
open PySem L2
theorem kV_inj {a b : Key} (h : kV a = kV b) : a = b := by
  cases a <;> cases b <;> simp_all [kV]
theorem kVs_inj : ∀ {a b : List Key}, a.map kV = b.map kV -> a = b
  | [], [], _ => rfl
  | [], b :: bs, h => by simp at h
  | a :: as, [], h => by simp at h
  | a :: as, b :: bs, h => by
    rw [List.map_cons, List.map_cons] at h
    obtain ⟨h1, h2⟩ := List.cons.inj h
    rw [kV_inj h1, kVs_inj h2]
theorem kV_ref {k : Key} {a : Addr} (h : kV k = .ref a) : False := by cases k <;> cases h
theorem keyN_inj {H : Hp} : ∀ {k k' : NK} {v : V}, keyN H k v -> keyN H k' v -> k = k'
  | .inl k, .inl k', v, h, h' => by
    have h : v = kV k := h
    have h' : v = kV k' := h'
    rw [kV_inj (h.symm.trans h')]
  | .inl k, .inr (.inl ks), v, h, ⟨a, h1, _⟩ => (kV_ref ((show v = kV k from h).symm.trans h1)).elim
  | .inl k, .inr (.inr ks), v, h, ⟨a, h1, _⟩ => (kV_ref ((show v = kV k from h).symm.trans h1)).elim
  | .inr (.inl ks), .inl k, v, ⟨a, h1, _⟩, h => (kV_ref ((show v = kV k from h).symm.trans h1)).elim
  | .inr (.inr ks), .inl k, v, ⟨a, h1, _⟩, h => (kV_ref ((show v = kV k from h).symm.trans h1)).elim
  | .inr (.inl ks), .inr (.inl ks'), v, ⟨a, h1, h2⟩, ⟨a', h1', h2'⟩ => by
    have : a = a' := V.ref.inj (h1.symm.trans h1')
    subst this
    rw [h2] at h2'
    rw [kVs_inj (HO.tup.inj (Option.some.inj h2'))]
  | .inr (.inl ks), .inr (.inr sp), v, ⟨a, h1, h2⟩, ⟨a', h1', b, h2', _⟩ => by
    have : a = a' := V.ref.inj (h1.symm.trans h1')
    subst this
    rw [h2] at h2'
    have e := HO.tup.inj (Option.some.inj h2')
    cases ks with
    | nil => simp at e
    | cons k ks => exact (kV_ref (List.cons.inj e).1).elim
  | .inr (.inr sp), .inr (.inl ks), v, ⟨a', h1', b, h2', _⟩, ⟨a, h1, h2⟩ => by
    have : a = a' := V.ref.inj (h1.symm.trans h1')
    subst this
    rw [h2] at h2'
    have e := HO.tup.inj (Option.some.inj h2')
    cases ks with
    | nil => simp at e
    | cons k ks => exact (kV_ref (List.cons.inj e).1).elim
  | .inr (.inr sp), .inr (.inr sp'), v, ⟨a, h1, b, h2, h3⟩, ⟨a', h1', b', h2', h3'⟩ => by
    have : a = a' := V.ref.inj (h1.symm.trans h1')
    subst this
    rw [h2] at h2'
    obtain ⟨e1, e2⟩ := List.cons.inj (HO.tup.inj (Option.some.inj h2'))
    have : b = b' := V.ref.inj e1
    subst this
    rw [h3] at h3'
    have e3 := kVs_inj (HO.tup.inj (Option.some.inj h3'))
    have e4 := kV_inj (List.cons.inj e2).1
    cases sp
    cases sp'
    simp_all
theorem nd_of {H : Hp} {c : Int} {ns : List V} (h : ∀ (j : Nat) v, ns[j]? = some v -> keyN H (nk c j) v) (l26 : ns.length <= 40) : ∃ κ : V -> NK, Nd H κ ns /\ ns.Nodup := by
  have inj : ∀ (i j : Nat) v u, ns[i]? = some v -> ns[j]? = some u -> nk c i = nk c j -> i = j := fun i j v u hi hj e => by
    have := lt_of_some hi
    have := lt_of_some hj
    have := nk_inj (c := c) (k := (i : Int)) (j := (j : Int)) (by omega) (by omega) (by omega) (by omega) e
    omega
  have hk : ∀ v, v ∈ ns -> ∀ k, keyN H k v -> Classical.epsilon (fun k => keyN H k v) = k := fun v hv k hk => keyN_inj (Classical.epsilon_spec (p := fun k => keyN H k v) ⟨k, hk⟩) hk
  refine ⟨fun v => Classical.epsilon fun k => keyN H k v, ⟨fun v hv => ?_, fun v hv u hu e => ?_⟩, ?_⟩
  · obtain ⟨i, hi⟩ := List.getElem?_of_mem hv
    exact Classical.epsilon_spec (p := fun k => keyN H k v) ⟨_, h i v hi⟩
  · obtain ⟨i, hi⟩ := List.getElem?_of_mem hv
    obtain ⟨j, hj⟩ := List.getElem?_of_mem hu
    have e : Classical.epsilon (fun k => keyN H k v) = Classical.epsilon (fun k => keyN H k u) := e
    rw [hk v hv _ (h i v hi), hk u hu _ (h j u hj)] at e
    have := inj i j v u hi hj e
    subst this
    exact Option.some.inj (hi.symm.trans hj)
  · rw [List.nodup_iff_pairwise_ne, List.pairwise_iff_getElem]
    intro i j hi hj hij e
    have e1 := List.getElem?_eq_getElem hi
    have e2 := List.getElem?_eq_getElem hj
    have k1 := h i _ e1
    have k2 := h j _ e2
    rw [e] at k1
    have := inj i j _ _ e1 e2 (keyN_inj k1 k2)
    omega
section
variable {P : Program} {w : World} {κ : V -> NK} {H H' H1 : Hp} {g L : Addr} {ks us : List V} {l : V -> Addr} {v x : V}
theorem GB.put {o : Obj} (h : GB P w κ H g ks l (fun _ => []) 0) (nd : Nd H κ us) (hs : ∀ k ∈ ks, k ∈ us) (hv : v ∈ us) (hn : v ∉ ks) (hL : H L = none)
    (ob : ObN P w g (putM (ks.map (row κ fun v => .ref (l v))) (κ v) v (.ref L)) o) : GB P w κ (upd (upd H L (.lst [])) g (pinO g o)) g (ks ++ [v]) (fun u => if u = v then L else l u) (fun _ => []) 0 := by
  have s := same_new hL (.lst [])
  have d2 := DN.put (h.d.same s) ((nd.same s).key v hv) ob
  rw [(nd.same s).new hs hv hn] at d2
  obtain ⟨o1, e1⟩ := h.d.pin
  have gL : L ≠ g := fun z => by rw [z, e1] at hL; cases hL
  have lL : ∀ u ∈ ks, l u ≠ L := fun u hu z => by have := h.at_ u hu; rw [z, hL] at this; cases this
  refine ⟨?_, fun u hu => ?_, (fun _ _ _ hu => nomatch hu), fun _ _ => Nat.le_refl _, fun u hu y hy e => ?_⟩
  · have : (setF (fun v => V.ref (l v)) v (.ref L)) = fun u => .ref (if u = v then L else l u) := by
      funext u
      unfold setF
      by_cases e : u = v
      · rw [if_pos e, if_pos e]
      · rw [if_neg e, if_neg e]
    rw [this] at d2
    exact d2
  · show upd (upd H L (.lst [])) g (pinO g o) (if u = v then L else l u) = _
    by_cases e : u = v
    · rw [if_pos e, upd_ne gL, upd_same]
    · rw [if_neg e]
      have hu : u ∈ ks := by
        rcases List.mem_append.mp hu with z | z
        · exact z
        · exact absurd (List.mem_singleton.mp z) e
      have ha := h.at_ u hu
      rw [upd_ne (fun z => by rw [z, e1] at ha; cases ha), upd_ne (lL u hu)]
      exact ha
  · have mem : ∀ u, u ∈ ks ++ [v] -> u ≠ v -> u ∈ ks := fun u hu n => by
      rcases List.mem_append.mp hu with z | z
      · exact z
      · exact absurd (List.mem_singleton.mp z) n
    by_cases e1 : u = v
    · by_cases e2 : y = v
      · rw [e1, e2]
      · rw [if_pos e1, if_neg e2] at e
        exact absurd e.symm (lL y (mem y hy e2))
    · by_cases e2 : y = v
      · rw [if_neg e1, if_pos e2] at e
        exact absurd e (lL u (mem u hu e1))
      · rw [if_neg e1, if_neg e2] at e
        exact h.inj u (mem u hu e1) y (mem y hy e2) e
end
def inOrd (ns : List V) (es : List (Int × Int)) : List V := es.map fun e => ns.getD e.2.toNat .non
theorem inOrd_perm {ns : List V} {es : List (Int × Int)} {f : Nat -> Int} (h : es.Perm ((List.range ns.length).map fun k => (f k, (k : Int)))) : (inOrd ns es).Perm ns := by
  have := h.map fun e : Int × Int => ns.getD e.2.toNat V.non
  refine (show (inOrd ns es).Perm _ from this).trans ?_
  rw [List.map_map]
  have : (List.range ns.length).map ((fun e : Int × Int => ns.getD e.2.toNat V.non) ∘ fun k => (f k, (k : Int))) = ns := by
    refine List.ext_getElem? fun i => ?_
    rw [List.getElem?_map]
    by_cases hi : i < ns.length
    · rw [List.getElem?_range hi, List.getElem?_eq_getElem hi]
      show some (ns.getD (Int.toNat (i : Int)) V.non) = _
      rw [show Int.toNat (i : Int) = i from rfl, List.getD_eq_getElem?_getD, List.getElem?_eq_getElem hi]
      rfl
    · rw [List.getElem?_eq_none (by rw [List.length_range]; omega), List.getElem?_eq_none (by omega)]
      rfl
  rw [this]
theorem inOrd_at {ns : List V} {es : List (Int × Int)} {f : Nat -> Int} (h : es.Perm ((List.range ns.length).map fun k => (f k, (k : Int)))) {i : Nat} {e : Int × Int} (he : es[i]? = some e) : ∃ v, (inOrd ns es)[i]? = some v /\ atI ns e.2 = some v := by
  have hm := h.mem_iff.mp (List.mem_of_getElem? he)
  obtain ⟨k, hk, rfl⟩ := List.mem_map.mp hm
  have hk := List.mem_range.mp hk
  refine ⟨ns[k], ?_, atI_nat (List.getElem?_eq_getElem hk)⟩
  unfold inOrd
  rw [List.getElem?_map, he]
  show some (ns.getD (Int.toNat (k : Int)) V.non) = _
  rw [show Int.toNat (k : Int) = k from rfl, List.getD_eq_getElem?_getD, List.getElem?_eq_getElem hk]
  rfl
end K31
namespace K31
open PySem L2
theorem l2r_at {α : Type} {R : α -> V -> Prop} : ∀ {as : List α} {vs : List V} {i : Nat} {a : α}, TM.L2R R as vs -> as[i]? = some a -> ∃ v, vs[i]? = some v /\ R a v
  | _, _, _, _, .nil, h => by simp at h
  | _, _, 0, _, .cons r _, h => by cases h; exact ⟨_, rfl, r⟩
  | _, _, i + 1, _, .cons _ rs, h => l2r_at (i := i) rs h
def plc (s : Int) (k : Nat) : Int := (0 + (k : Int) + 3) * (s + 7) * 48271 % 2147483647
def spGraph (P : Program) (w : World) : Sp := fun as H Q _ => ∃ (a : Addr) (cells : List Int), as = [.ref a, .int 40] /\ H a = some (.lst (cells.map V.int)) /\ cells.length <= 63 /\ (∀ c ∈ cells, 0 <= c /\ c < 1000000000000000000) /\
  ∀ g κ vs l E H', Same H H' -> H g = none -> Nd H' κ vs -> Gr P w κ H' g vs l E -> 1 <= vs.length -> vs.length <= 40 -> Q (.ref g) H'
section
variable {P : Program} {w : World} {K : PySem.W.Frag} {mg : Str -> Option Value} {base : Heap} {T : Adr}
theorem ok_graph (X : Tx K mg T) : FnOk P w K mg base CX0 2 T.qgraph T.d_qgraph ["_law_cells", "_law_most"] (spGraph P w) := by
  have G_qnode := ok_node (P := P) (w := w) (base := base) X
  have G_qedges := ok_edges (P := P) (w := w) (base := base) X
  refine X.F_qgraph.okQ sc_qgraph (fun vs H Q E h => ?_) (fun cdv A outer s H vs Q E hr h => ?_)
  · obtain ⟨_, _, rfl, _⟩ := h
    rfl
  obtain ⟨a, cells, rfl, ha, l63, cb, q⟩ := h
  refine ⟨_, (qss_cons (qs_set (i := 2) sc_qgraph.nd rfl (Or.inr rfl) qe_int) (qss_cons (qs_for PassesOwn.never rfl (qi_list (qv 0)) (qg_name (i := 3) sc_qgraph.nd rfl (Or.inl rfl)) (qss_one (qs_set (i := 2) sc_qgraph.nd rfl (Or.inr rfl) (qe_op op_mod (qe_op op_add (qe_op op_mul (qv 2) qe_int) (qv 3)) qe_int)))) (qss_cons (qs_set (i := 4) sc_qgraph.nd rfl (Or.inl rfl) (qe_op op_add qe_int (qe_op op_mod (qv 2) (qv 1)))) (qss_cons (qs_setC (ys := ["_law_seed"]) (js := [2]) rfl rfl (qi_range1 rfl X.z_range (qaN (qv 4) qa_nil)) (fun _ _ _ _ _ => qif_nil) (fun _ _ _ _ _ => (qe_call G_qnode hr rfl X.m_qnode X.F_qnode.kp X.b_qnode .nil pass0 (qaB (qe_op op_fdiv (qv 1) qe_int) (qaN (qv 0) qa_nil)))) (qg_name (i := 5) sc_qgraph.nd rfl (Or.inl rfl)) rfl) (qss_cons (qs_set (i := 6) sc_qgraph.nd rfl (Or.inl rfl) (qe_callB call_sortI rfl X.z_sorted PyProof.Rows.boot_sorted (qaE (qe_comp (ys := ["_law_seed"]) (js := [2]) rfl rfl (qi_range1 rfl X.z_range (qaN (qv 4) qa_nil)) (fun _ _ _ _ _ => qif_nil) (fun _ _ _ _ _ => (qe_tup (qaB (qe_op op_mod (qe_op op_mul (qe_op op_mul (qe_op op_add (qv 0) qe_int) (qe_op op_add (qv 1) qe_int)) qe_int) qe_int) (qaN (qv 0) qa_nil))))) qa_nil))) (qss_cons (qs_set (i := 7) sc_qgraph.nd rfl (Or.inl rfl) qe_dnewN) (qss_cons (qs_for PassesOwn.never rfl (qi_list (qv 6)) (qg_tup rfl (qgs_cons (qg_name (i := 8) sc_qgraph.nd rfl (Or.inl rfl)) (qgs_cons (qg_name (i := 9) sc_qgraph.nd rfl (Or.inl rfl)) qgs_nil))) (qss_one (qs_dputN hr.un80 (qv 7) (qe_ix ix_list (qv 5) (qv 9) (fun _ _ => rfl)) (qe_lst qa_nil)))) (qss_cons (qs_if (qt_cmpR op_eq (qe_op op_mod (qe_op op_fdiv (qv 2) qe_int) qe_int) qe_int (nomark _)) (qss_one (qs_for PassesOwn.never rfl (qi_range2 rfl X.z_range (qaC qe_int (qaN (qv 4) qa_nil))) (qg_name (i := 9) sc_qgraph.nd rfl (Or.inl rfl)) (qss_one (qs_expr (qe_bm PySem.F.plainAttrs_list PySem.F.slot_list_append PySem.F.type_list_append mt_append (qe_dgetN hr.un80 (qv 7) (qe_ix ix_list (qv 5) (qv 9) (fun _ _ => rfl))) (qaS (qe_ix ix_list (qv 5) (qe_op op_sub (qv 9) qe_int) (fun _ _ => rfl)) qa_nil)))))) qss_nil) (qss_cons (qs_expr (qe_call G_qedges hr rfl X.m_qedges X.F_qedges.kp X.b_qedges .nil pass0 (qaN (qv 7) (qaN (qv 5) (qaN (qv 0) (qaB (qe_op op_mod (qe_op op_fdiv (qv 2) qe_int) qe_int) qa_nil)))))) (qss_cons (qs_if (qt_cmpR op_eq (qe_op op_mod (qe_op op_fdiv (qv 2) qe_int) qe_int) qe_int (nomark _)) (qss_cons (qs_set (i := 10) sc_qgraph.nd rfl (Or.inl rfl) (qe_op op_mod (qe_op op_fdiv (qv 2) qe_int) (qv 4))) (qss_cons (qs_set (i := 11) sc_qgraph.nd rfl (Or.inl rfl) (qe_op op_add (qv 10) (qe_op op_mod (qe_op op_fdiv (qv 2) qe_int) (qe_op op_sub (qv 4) (qv 10))))) (qss_one (qs_expr (qe_bm PySem.F.plainAttrs_list PySem.F.slot_list_append PySem.F.type_list_append mt_append (qe_dgetN hr.un80 (qv 7) (qe_ix ix_list (qv 5) (qv 10) (fun _ _ => rfl))) (qaS (qe_ix ix_list (qv 5) (qv 11) (fun _ _ => rfl)) qa_nil)))))) qss_nil) (qss_one (qs_ret (qv 7))))))))))))), ?_⟩
  refine seq_setC ?_
  refine ⟨_, rfl, a, rfl, ⟨_, SqL.of ha⟩, ?_⟩
  refine for_list (xs := cells.map V.int) (fun i σ H' => H' = H /\ ∃ (s : Int) (x3 : Option V), 0 <= s /\ s < 999999937 /\ σ = [some (.ref a), some (.int 40), some (.int s), x3, none, none, none, none, none, none, none, none])
    ⟨rfl, 4711, none, by decide, by decide, rfl⟩ (fun i σ H' _ ⟨e, _⟩ => by rw [e]; exact SqL.of ha) ?_ ?_
  · rintro i x σ H' hx ⟨rfl, s, x3, s0, s1, rfl⟩
    obtain ⟨c, hc, rfl⟩ := List.mem_map.mp (List.mem_of_getElem? hx)
    refine ⟨_, rfl, _, _, rfl, rfl, .inr ⟨by decide, by decide⟩, _, rfl, _, _, rfl, rfl, _, _, rfl, rfl, (by show (0 : Int) < 999999937; decide), ?_⟩
    exact ⟨rfl, _, _, Int.emod_nonneg _ (by decide), Int.emod_lt_of_pos _ (by decide), rfl⟩
  rintro σ H' ⟨e, s, x3, s0, s1, rfl⟩
  rw [e]
  clear e
  refine ⟨_, rfl, _, rfl, _, _, rfl, rfl, (by show (0 : Int) < 40; decide), _, _, rfl, rfl, ?_⟩
  have m0 := Int.emod_nonneg s (show (40 : Int) ≠ 0 by decide)
  have m1 := Int.emod_lt_of_pos s (show (0 : Int) < 40 by decide)
  have hm : ∃ M : Nat, 1 + s % 40 = (M : Int) /\ 1 <= M /\ M <= 40 := ⟨(1 + s % 40).toNat, by omega, by omega, by omega⟩
  obtain ⟨M, eM, M1, M14⟩ := hm
  dsimp only [gName]
  rw [eM]
  refine ⟨_, rfl, _, rfl, by omega, by omega, fun D hD => ?_⟩
  refine comp_rng (fun i acc H' => acc.length = i /\ (∀ (j : Nat) v, acc[j]? = some v -> keyN H' (nk (s / 40) j) v) /\ Same H H' /\ H' D = some (.lst acc)) (Nat.lt_of_le_of_lt (show (M : Int).toNat <= 1000 by omega) (by decide)) ⟨rfl, (fun j v h => by simp at h), same_new hD _, upd_same⟩ (fun i acc H' ⟨l, _, _, d⟩ => ⟨d, l⟩) ?_ ?_
  · rintro i m acc H1 hi ⟨la, hk, sm, hD1⟩ hm
    have hi2 : i < M := hi
    refine ⟨_, rfl, _, _, rfl, rfl, ⟨by decide, by decide⟩, _, rfl, s / 40, 0 + (i : Int), rfl, by omega, by omega, fun v H2 s2 kv => ?_⟩
    have hD2 := s2 _ _ hD1
    have keep : ∀ b ys, H2 b = some (.tup ys) -> upd H2 D (.lst (acc ++ [v])) b = some (.tup ys) := fun b ys e => by
      rw [upd_ne (ne_of e hD2 (fun z => nomatch z))]; exact e
    refine cstep hi hm hD2 ⟨by rw [List.length_append, la]; rfl, fun j u hj => ?_, same_upd hD (sm.trans s2), upd_same⟩
    by_cases hji : j < acc.length
    · rw [get_snoc hji] at hj
      exact ((hk j u hj).same fun b ys e => s2 _ _ e).same keep
    · have hl := lt_of_some hj
      rw [List.length_append, List.length_singleton] at hl
      have ej : j = acc.length := by omega
      subst ej
      rw [List.getElem?_append_right (Nat.le_refl _), Nat.sub_self] at hj
      cases hj
      rw [show 0 + (i : Int) = ((acc.length : Nat) : Int) by omega] at kv
      exact kv.same keep
  rintro ns H1 ⟨lns, hns, sm1, hn⟩
  have lns : ns.length = M := lns
  have hMn : (M : Int).toNat = M := rfl
  dsimp only [gName]
  have hf1 := hD
  refine ⟨_, rfl, _, rfl, by omega, by omega, fun C hC => ?_⟩
  refine comp_rng (fun i acc H' => acc.length = i /\ TM.L2R (IsI H') ((List.range i).map fun k => (plc s k, (k : Int))) acc /\ Same H1 H' /\ H' C = some (.lst acc)) (Nat.lt_of_le_of_lt (show (M : Int).toNat <= 1000 by omega) (by decide)) ⟨rfl, .nil, same_new hC _, upd_same⟩ (fun i acc H' ⟨l, _, _, d⟩ => ⟨d, l⟩) ?_ ?_
  · rintro i m acc H2 hi ⟨la, hl, sm, hC2⟩ hm
    have hi2 : i < M := hi
    refine ⟨_, rfl, _, _, rfl, rfl, _, rfl, _, _, rfl, rfl, _, _, rfl, rfl, .inl ⟨by omega, by omega⟩, _, _, rfl, rfl, .inr ⟨by decide, by decide⟩, _, _, rfl, rfl, (by show (0 : Int) < 2147483647; decide), _, rfl, (by show 2 <= sizeLine; decide), fun p hp => ?_⟩
    have sp := same_new hp (.tup [.int (plc s i), .int (0 + (i : Int))])
    refine cstep hi hm (sp _ _ hC2) ⟨by rw [List.length_append, la]; rfl, ?_, same_upd hC (sm.trans sp), upd_same⟩
    have keep : ∀ b ys, upd H2 p (.tup [.int (plc s i), .int (0 + (i : Int))]) b = some (.tup ys) -> upd (upd H2 p (.tup [.int (plc s i), .int (0 + (i : Int))])) C (.lst (acc ++ [.ref p])) b = some (.tup ys) := fun b ys e => by
      rw [upd_ne (ne_of e (sp _ _ hC2) (fun z => nomatch z))]; exact e
    rw [List.range_succ, List.map_append]
    refine (hl.imp fun e u ⟨b, h1, h2⟩ => ⟨b, h1, keep _ _ (sp _ _ h2)⟩).snoc ⟨p, rfl, ?_⟩
    refine keep _ _ ?_
    rw [upd_same]
    show some (HO.tup [V.int (plc s i), V.int (0 + (i : Int))]) = some (HO.tup [V.int (plc s i), V.int (i : Int)])
    rw [Int.zero_add]
  rintro ps H2 ⟨lps, hps, sm2, hC2⟩
  have lps : ps.length = M := lps
  have hn2 := sm2 _ _ hn
  have sm02 := sm1.trans sm2
  refine ⟨C, _, ps, rfl, SqL.of hC2, hps, by omega, fun B es us hB per _ hes lus => ?_⟩
  have sB := same_new hB (.lst us)
  have hB3 := upd_same (H := H2) (a := B) (o := .lst us)
  have hes3 : TM.L2R (IsI (upd H2 B (.lst us))) es us := hes.imp fun e u ⟨b, h1, h2⟩ => ⟨b, h1, sB _ _ h2⟩
  have hn3 := sB _ _ hn2
  have sm03 := sm02.trans sB
  have hk3 : ∀ (j : Nat) v, ns[j]? = some v -> keyN (upd H2 B (.lst us)) (nk (s / 40) j) v := fun j v h => ((hns j v h).same fun b ys e => sm2 _ _ e).same fun b ys e => sB _ _ e
  have per : es.Perm ((List.range ns.length).map fun k => (plc s k, (k : Int))) := by rw [lns]; exact per
  have lus : us.length = M := by omega
  generalize upd H2 B (.lst us) = H3 at sB hB3 hes3 hn3 sm03 hk3 ⊢
  clear hes hns hn hn2 sm1 sm2 sm02 sB hB hps lps hC2 hC
  obtain ⟨κ, nd3, ndup⟩ := nd_of hk3 (by omega)
  have vp := inOrd_perm per
  generalize hvs : inOrd ns es = vs at vp
  have vn : vs.Nodup := vp.nodup_iff.mpr ndup
  have lvs : vs.length = M := by rw [vp.length_eq]; exact lns
  have les : es.length = M := by rw [<- hes3.len]; exact lus
  have vmem : ∀ v, v ∈ vs ↔ v ∈ ns := fun v => vp.mem_iff
  have hat : ∀ (i : Nat) e, es[i]? = some e -> ∃ v, vs[i]? = some v /\ atI ns e.2 = some v := fun i e h => by rw [<- hvs]; exact inOrd_at per h
  have ndv : Nd H3 κ vs := ⟨fun v hv => nd3.key v ((vmem v).mp hv), fun v hv u hu => nd3.inj v ((vmem v).mp hv) u ((vmem u).mp hu)⟩
  dsimp only [gName]
  intro g o hg ob
  have sg := same_new hg (pinO g o)
  have hg0 : H g = none := sm03.free hg
  have gb0 : GB P w κ (upd H3 g (pinO g o)) g [] (fun _ => 0) (fun _ => []) 0 := ⟨DN.new (H := H3) ob, (fun v hv => nomatch hv), (fun v hv => nomatch hv), (fun v hv => nomatch hv), (fun v hv => nomatch hv)⟩
  generalize upd H3 g (pinO g o) = H4 at sg gb0 ⊢
  refine ⟨_, rfl, B, rfl, ⟨_, SqL.of (sg _ _ hB3)⟩, ?_⟩
  refine for_list (xs := us) (fun i σ H' => ∃ (l : V -> Addr) (x8 x9 : Option V), σ = [some (.ref a), some (.int 40), some (.int s), x3, some (.int M), some (.ref D), some (.ref B), some (.ref g), x8, x9, none, none] /\ Same H3 H' /\ GB P w κ H' g (vs.take i) l (fun _ => []) 0 /\ ∀ v ∈ vs.take i, H3 (l v) = none)
    ⟨_, none, none, rfl, sg, gb0, fun v hv => by rw [List.take_zero] at hv; exact nomatch hv⟩ (fun i σ H' _ ⟨_, _, _, _, sm, _⟩ => SqL.of (sm _ _ hB3)) ?_ ?_
  · rintro i x σ H5 hx ⟨l, x8, x9, rfl, sm, gb, fr⟩
    have hi := lt_of_some hx
    obtain ⟨e, he⟩ := some_of_lt (xs := es) (i := i) (by omega)
    obtain ⟨x', hx', p, rfl, hp⟩ := l2r_at hes3 he
    rw [hx'] at hx
    cases hx
    obtain ⟨v, hv, hva⟩ := hat i e he
    have vm := List.mem_of_getElem? hv
    refine ⟨p, _, rfl, SqT.of (sm _ _ hp), rfl, _, _, rfl, _, _, rfl, rfl, ?_⟩
    refine ⟨(by show 0 <= sizeLine; decide), fun L hL => ?_⟩
    have sL := same_new hL (.lst [])
    have nd6 := ndv.same (sm.trans sL)
    have tk : vs.take (i + 1) = vs.take i ++ [v] := take_snocA hv
    have sub : ∀ k ∈ vs.take i, k ∈ vs := fun k hk => List.mem_of_mem_take hk
    have hnew : v ∉ vs.take i := fun z => by
      have : (vs.take (i + 1)).Nodup := vn.sublist (List.take_sublist _ _)
      rw [tk] at this
      exact (List.nodup_append.mp this).2.2 v z v (List.mem_singleton.mpr rfl) rfl
    refine ⟨_, rfl, _, rfl, _, rfl, D, _, _, v, rfl, rfl, SqL.of (sL _ _ (sm _ _ hn3)), hva, g, _, κ v, rfl, gb.d.same sL, nd6.key v vm, by rw [List.length_map, List.length_take]; exact Nat.lt_of_le_of_lt (show min i vs.length <= 1000 by omega) (by decide), fun o' ob' => ?_⟩
    have gb' := GB.put gb (ndv.same sm) sub vm hnew hL ob'
    rw [<- tk] at gb'
    refine ⟨_, _, _, rfl, same_upd hg (sm.trans sL), gb', fun u hu => ?_⟩
    show H3 (if u = v then L else l u) = none
    by_cases e2 : u = v
    · rw [if_pos e2]; exact sm.free hL
    · rw [if_neg e2]
      rw [tk] at hu
      rcases List.mem_append.mp hu with z | z
      · exact fr u z
      · exact absurd (List.mem_singleton.mp z) e2
  rintro σ H5 ⟨l, x8, x9, rfl, sm, gb, fr⟩
  rw [show us.length = vs.length by omega, List.take_length] at gb fr
  have nfr : ∀ (y : Addr) o, H3 y = some o -> ∀ v ∈ vs, y ≠ l v := fun y o hy v hv z => by rw [z, fr v hv] at hy; cases hy
  have hn5 := sm _ _ hn3
  have ha3 := sm03 _ _ ha
  have nd5 := ndv.same sm
  have nne : ns ≠ [] := fun z => by rw [z] at lns; simp at lns; omega
  dsimp only
  refine seq_join (fun σ' H' => ∃ (x9 : Option V) (E : V -> List V), σ' = [some (.ref a), some (.int 40), some (.int s), x3, some (.int M), some (.ref D), some (.ref B), some (.ref g), x8, x9, none, none] /\ Ow vs l H5 H' /\ GB P w κ H' g vs l E 40) ?_ (fun F hF => ?_)
  · rintro σ' H6 ⟨x9, E6, rfl, ow6, gb6⟩
    have hn6 := ow6.keep hn5 (nfr _ _ hn3)
    have ha6 := ow6.keep (sm _ _ ha3) (nfr _ _ ha3)
    · refine ⟨_, rfl, _, rfl, _, rfl, _, rfl, _, _, rfl, rfl, ⟨by decide, by decide⟩, _, _, rfl, rfl, (by show (0 : Int) < 4; decide), g, D, a, κ, vs, l, E6, 40, ns, cells, _, rfl, ow6.nd gb nd5, gb6, hn6, nne, by omega, fun u hu => (vmem u).mpr hu, ha6, fun v hv => ⟨nfr _ _ hn3 v hv, nfr _ _ ha3 v hv⟩, by omega, fun E8 H8 ow8 gb8 => ?_⟩
      have ow58 := ow6.trans ow8
      have hn8 := ow58.keep hn5 (nfr _ _ hn3)
      have nd8 := ow58.nd gb nd5
      have fin : ∀ (E9 : V -> List V) (H9 : Hp), Ow vs l H5 H9 -> GB P w κ H9 g vs l E9 200 -> Q (.ref g) H9 := fun E9 H9 ow9 gb9 => q g κ vs l E9 H9 (fun y o e => ow9 y o (sm _ _ (sm03 _ _ e)) (nfr y o (sm03 _ _ e))) hg0 (ow9.nd gb nd5) (gb9.gr (by omega)) (by omega) (by omega)
      refine ⟨_, rfl, _, _, rfl, rfl, ⟨by decide, by decide⟩, _, _, rfl, rfl, (by show (0 : Int) < 4; decide), rfl, _, rfl, ?_⟩
      refine iteDd (fun _ => ?_) (fun _ => ⟨_, rfl, fin E8 H8 ow58 (gb8.mono (by omega))⟩)
      refine ⟨_, rfl, _, _, rfl, rfl, ⟨by decide, by decide⟩, _, rfl, _, _, rfl, rfl, (by show (0 : Int) < M; omega), ?_⟩
      dsimp only [gName]
      have lo0 := Int.emod_nonneg (s / 24) (show (M : Int) ≠ 0 by omega)
      have lo1 := Int.emod_lt_of_pos (s / 24) (show (0 : Int) < M by omega)
      generalize s / 24 % (M : Int) = low at lo0 lo1
      refine ⟨_, rfl, _, rfl, _, _, rfl, rfl, ⟨by decide, by decide⟩, _, rfl, _, rfl, _, _, rfl, rfl, _, _, rfl, rfl, (by show (0 : Int) < M - low; omega), _, _, rfl, rfl, ?_⟩
      dsimp only [gName]
      have hi0 := Int.emod_nonneg (s / 960) (show (M : Int) - low ≠ 0 by omega)
      have hi1 := Int.emod_lt_of_pos (s / 960) (show (0 : Int) < M - low by omega)
      obtain ⟨vl, hvl, ml⟩ := atI_in (xs := ns) (i := low) lo0 (by omega)
      obtain ⟨vh, hvh, mh⟩ := atI_in (xs := ns) (i := low + s / 960 % (M - low)) (by omega) (by omega)
      have vl' := (vmem vl).mpr ml
      have vh' := (vmem vh).mpr mh
      have hat8 := gb8.at_ vl vl'
      refine ⟨_, rfl, _, rfl, _, rfl, D, _, _, vl, rfl, rfl, SqL.of hn8, hvl, g, _, κ vl, _, rfl, gb8.d, nd8.key vl vl', nd8.val (fun _ h => h) vl', .inl ⟨rfl, _, SqL.of hat8⟩, _, rfl, _, rfl, D, _, _, vh, rfl, rfl, SqL.of hn8, hvh, l vl, _, vh, rfl, rfl, hat8, Nat.lt_of_le_of_lt (Nat.le_trans (gb8.len vl vl') (show 40 + 2 * cells.length <= 1000 by omega)) (by decide), ?_⟩
      exact ⟨_, rfl, fin _ _ (ow58.set vl') ((gb8.app vl' vh').mono (by omega))⟩
  · have no := hF _ _ ⟨x9, fun _ => [], rfl, Ow.refl, gb.mono (by omega)⟩
    refine ⟨_, rfl, _, _, rfl, rfl, ⟨by decide, by decide⟩, _, _, rfl, rfl, (by show (0 : Int) < 2; decide), rfl, _, rfl, ?_⟩
    refine iteDd (fun _ => ?_) (fun _ => no)
    refine ⟨_, rfl, _, _, rfl, by omega, ?_⟩
    refine for_range (n := ((M : Int) - 1).toNat) (fun i σ' H' => ∃ (x9 : Option V) (E : V -> List V), σ' = [some (.ref a), some (.int 40), some (.int s), x3, some (.int M), some (.ref D), some (.ref B), some (.ref g), x8, x9, none, none] /\ Ow vs l H5 H' /\ GB P w κ H' g vs l E i) ⟨x9, _, rfl, Ow.refl, gb⟩ ?_ ?_
    · rintro i σ' H6 hi ⟨x9, E6, rfl, ow6, gb6⟩
      have hn6 := ow6.keep hn5 (nfr _ _ hn3)
      have nd6 := ow6.nd gb nd5
      obtain ⟨vl, hvl, ml⟩ := atI_in (xs := ns) (i := 1 + (i : Int)) (by omega) (by omega)
      obtain ⟨vh, hvh, mh⟩ := atI_in (xs := ns) (i := 1 + (i : Int) - 1) (by omega) (by omega)
      have vl' := (vmem vl).mpr ml
      have vh' := (vmem vh).mpr mh
      have hat6 := gb6.at_ vl vl'
      refine ⟨_, rfl, _, rfl, _, rfl, D, _, _, vl, rfl, rfl, SqL.of hn6, hvl, g, _, κ vl, _, rfl, gb6.d, nd6.key vl vl', nd6.val (fun _ h => h) vl', .inl ⟨rfl, _, SqL.of hat6⟩, _, rfl, _, rfl, _, _, rfl, rfl, D, _, _, vh, rfl, rfl, SqL.of hn6, hvh, l vl, _, vh, rfl, rfl, hat6, Nat.lt_of_le_of_lt (Nat.le_trans (gb6.len vl vl') (show i <= 1000 by omega)) (by decide), ?_⟩
      exact ⟨_, _, rfl, ow6.set vl', gb6.app vl' vh'⟩
    · rintro σ' H6 ⟨x9, E6, rfl, ow6, gb6⟩
      exact hF _ _ ⟨x9, E6, rfl, ow6, gb6.mono (by omega)⟩
end
end K31
namespace K31
open PySem L2
theorem k_st {K : PySem.W.Frag} : PySem.W.kitOne K (.type "str") (.type "tuple") = some false := by with_unfolding_all rfl
theorem k_ll {K : PySem.W.Frag} : PySem.W.kitOne K (.type "list") (.type "list") = some true := by with_unfolding_all rfl
def Pl2 (H : Hp) : Nat -> V -> Prop
  | 0, v => (∃ i, v = .int i) \/ ∃ z, v = .str z
  | n + 1, v => (∃ i, v = .int i) \/ (∃ z, v = .str z) \/ ∃ a ys, v = .ref a /\ H a = some (.tup ys) /\ ∀ y ∈ ys, Pl2 H n y
theorem pl_K {H : Hp} (n : Nat) (k : Key) : Pl2 H n (kV k) := by
  cases n <;> cases k
  · exact .inl ⟨_, rfl⟩
  · exact .inr ⟨_, rfl⟩
  · exact .inl ⟨_, rfl⟩
  · exact .inr (.inl ⟨_, rfl⟩)
theorem pl_N {H : Hp} : ∀ {k : NK} {v : V}, keyN H k v -> Pl2 H 2 v
  | .inl k, v, h => by rw [show v = kV k from h]; exact pl_K 2 k
  | .inr (.inl ks), v, ⟨a, h1, h2⟩ => .inr (.inr ⟨a, _, h1, h2, fun y hy => by
      obtain ⟨k, _, rfl⟩ := List.mem_map.mp hy
      exact pl_K 1 k⟩)
  | .inr (.inr sp), v, ⟨a, h1, b, h2, h3⟩ => .inr (.inr ⟨a, _, h1, h2, fun y hy => by
      rcases List.mem_cons.mp hy with rfl | hy
      · exact .inr (.inr ⟨b, _, rfl, h3, fun y hy => by
          obtain ⟨k, _, rfl⟩ := List.mem_map.mp hy
          exact pl_K 0 k⟩)
      · rw [List.mem_singleton.mp hy]
        exact pl_K 1 sp.2⟩)
def spPlain (n : Nat) : Sp := fun vs H Q _ => ∃ v, vs = [v] /\ Pl2 H n v /\ Q (.bl true) H
def spCopy (P : Program) (w : World) : Sp := fun as H Q _ => ∃ (g : Addr) (κ : V -> NK) (vs : List V) (l : V -> Addr) (E : V -> List V), as = [.ref g] /\ Nd H κ vs /\ Gr P w κ H g vs l E /\ vs.length <= 50 /\
  ∀ f l' H', Same H H' -> H f = none -> Gr P w κ H' f vs l' E -> Q (.ref f) H'
section
variable {P : Program} {w : World} {K : PySem.W.Frag} {mg : Str -> Option Value} {base : Heap} {T : Adr}
theorem ok_plain (X : Tx K mg T) : ∀ n : Nat, FnOk P w K mg base CX0 (n + 1) T.qplain T.d_qplain ["_law_thing"] (spPlain n) := by
  intro n
  induction n with
  | zero =>
    have G_qplain : FnOk P w K mg base CX0 0 T.qplain T.d_qplain ["_law_thing"] (fun _ _ _ _ => False) := ⟨fun _ _ _ _ h => h.elim, fun _ _ _ _ _ _ _ _ _ _ _ _ _ h => h.elim⟩
    refine X.F_qplain.okQ sc_qplain (fun vs H Q E h => ?_) (fun cdv A outer s H vs Q E hr h => ?_)
    · obtain ⟨_, rfl, _⟩ := h
      rfl
    obtain ⟨v, rfl, pl, q⟩ := h
    refine ⟨_, (qss_cons (qs_if (qt_val (qe_callB call_isinst rfl X.z_isinstance PyProof.Rows.boot_isinstance (qaN (qv 0) (qaN (qe_bltn rfl X.z_tuple PyProof.Rows.boot_tuple rfl (v := .ty "tuple")) qa_nil)))) (qss_cons (qs_for PassesOwn.never rfl (qi_tup (qv 0)) (qg_name (i := 1) sc_qplain.nd rfl (Or.inl rfl)) (qss_one (qs_if (qt_not (qt_val (qe_call G_qplain hr rfl X.m_qplain X.F_qplain.kp X.b_qplain .nil pass0 (qaN (qv 1) qa_nil)))) (qss_one (qs_ret qe_bl)) qss_nil))) (qss_one (qs_ret qe_bl))) qss_nil) (qss_one (qs_ret (qe_or (qe_callB call_isinst rfl X.z_isinstance PyProof.Rows.boot_isinstance (qaN (qv 0) (qaN (qe_bltn rfl X.z_str PyProof.Rows.boot_str rfl (v := .ty "str")) qa_nil))) (qe_one (qe_and (qe_callB call_isinst rfl X.z_isinstance PyProof.Rows.boot_isinstance (qaN (qv 0) (qaN (qe_bltn rfl X.z_int PyProof.Rows.boot_int rfl (v := .ty "int")) qa_nil))) (qe_one (qe_not (qe_callB call_isinst rfl X.z_isinstance PyProof.Rows.boot_isinstance (qaN (qv 0) (qaN (qe_bltn rfl X.z_bool PyProof.Rows.boot_bool rfl (v := .ty "bool")) qa_nil))))))))))), ?_⟩
    rcases pl with ⟨i, rfl⟩ | ⟨z, rfl⟩
    · exact ⟨_, rfl, _, "tuple", _, _, rfl, .int i, k_it, _, rfl, iteF ⟨_, rfl, _, "str", _, _, rfl, .int i, k_is', _, rfl, iteF ⟨_, rfl, _, "int", _, _, rfl, .int i, k_ii, _, rfl, iteT ⟨_, rfl, _, "bool", _, _, rfl, .int i, k_ib, _, rfl, q⟩⟩⟩⟩
    · exact ⟨_, rfl, _, "tuple", _, _, rfl, .str z, k_st, _, rfl, iteF ⟨_, rfl, _, "str", _, _, rfl, .str z, k_ss, _, rfl, iteT q⟩⟩
  | succ n ih =>
    have G_qplain := ih
    refine X.F_qplain.okQ sc_qplain (fun vs H Q E h => ?_) (fun cdv A outer s H vs Q E hr h => ?_)
    · obtain ⟨_, rfl, _⟩ := h
      rfl
    obtain ⟨v, rfl, pl, q⟩ := h
    refine ⟨_, (qss_cons (qs_if (qt_val (qe_callB call_isinst rfl X.z_isinstance PyProof.Rows.boot_isinstance (qaN (qv 0) (qaN (qe_bltn rfl X.z_tuple PyProof.Rows.boot_tuple rfl (v := .ty "tuple")) qa_nil)))) (qss_cons (qs_for PassesOwn.never rfl (qi_tup (qv 0)) (qg_name (i := 1) sc_qplain.nd rfl (Or.inl rfl)) (qss_one (qs_if (qt_not (qt_val (qe_call G_qplain hr rfl X.m_qplain X.F_qplain.kp X.b_qplain .nil pass0 (qaN (qv 1) qa_nil)))) (qss_one (qs_ret qe_bl)) qss_nil))) (qss_one (qs_ret qe_bl))) qss_nil) (qss_one (qs_ret (qe_or (qe_callB call_isinst rfl X.z_isinstance PyProof.Rows.boot_isinstance (qaN (qv 0) (qaN (qe_bltn rfl X.z_str PyProof.Rows.boot_str rfl (v := .ty "str")) qa_nil))) (qe_one (qe_and (qe_callB call_isinst rfl X.z_isinstance PyProof.Rows.boot_isinstance (qaN (qv 0) (qaN (qe_bltn rfl X.z_int PyProof.Rows.boot_int rfl (v := .ty "int")) qa_nil))) (qe_one (qe_not (qe_callB call_isinst rfl X.z_isinstance PyProof.Rows.boot_isinstance (qaN (qv 0) (qaN (qe_bltn rfl X.z_bool PyProof.Rows.boot_bool rfl (v := .ty "bool")) qa_nil))))))))))), ?_⟩
    rcases pl with ⟨i, rfl⟩ | ⟨z, rfl⟩ | ⟨a, ys, rfl, ha, hy⟩
    · exact ⟨_, rfl, _, "tuple", _, _, rfl, .int i, k_it, _, rfl, iteF ⟨_, rfl, _, "str", _, _, rfl, .int i, k_is', _, rfl, iteF ⟨_, rfl, _, "int", _, _, rfl, .int i, k_ii, _, rfl, iteT ⟨_, rfl, _, "bool", _, _, rfl, .int i, k_ib, _, rfl, q⟩⟩⟩⟩
    · exact ⟨_, rfl, _, "tuple", _, _, rfl, .str z, k_st, _, rfl, iteF ⟨_, rfl, _, "str", _, _, rfl, .str z, k_ss, _, rfl, iteT q⟩⟩
    · refine ⟨_, rfl, _, "tuple", _, _, rfl, .tup ha, k_tt, _, rfl, iteT ?_⟩
      refine ⟨_, rfl, a, rfl, ⟨_, SqT.of ha⟩, ?_⟩
      refine for_tup (xs := ys) (fun i σ H' => H' = H /\ ∃ x1 : Option V, σ = [some (.ref a), x1]) ⟨rfl, none, rfl⟩ (fun i σ H' _ ⟨e, _⟩ => by rw [e]; exact SqT.of ha) ?_ ?_
      · rintro i x σ H' hx ⟨rfl, x1, rfl⟩
        exact ⟨_, rfl, _, rfl, hy x (List.mem_of_getElem? hx), _, rfl, iteF ⟨rfl, _, rfl⟩⟩
      · rintro σ H' ⟨rfl, x1, rfl⟩
        exact q
theorem ok_copy (X : Tx K mg T) : FnOk P w K mg base CX0 1 T.qcopy T.d_qcopy ["_law_graph_here"] (spCopy P w) := by
  refine X.F_qcopy.okQ sc_qcopy (fun vs H Q E h => ?_) (fun cdv A outer s H vs Q E hr h => ?_)
  · obtain ⟨_, _, _, _, _, rfl, _⟩ := h
    rfl
  obtain ⟨g, κ, vs, l, E, rfl, nd, gr, l50, q⟩ := h
  refine ⟨_, (qss_cons (qs_set (i := 1) sc_qcopy.nd rfl (Or.inl rfl) qe_dnewN) (qss_cons (qs_for PassesOwn.never rfl (qi_keysN (qv 0)) (qg_name (i := 2) sc_qcopy.nd rfl (Or.inl rfl)) (qss_one (qs_dputN hr.un80 (qv 1) (qv 2) (qe_callTy call_list_of rfl X.z_list PyProof.Rows.boot_list (qaS (qe_dgetN hr.un80 (qv 0) (qv 2)) qa_nil))))) (qss_one (qs_ret (qv 1))))), ?_⟩
  intro f o hf ob
  have s0 := same_new hf (pinO f o)
  have F0 : DV P w κ (upd H f (pinO f o)) f [] (fun _ => V.non) := DN.new (H := H) ob
  generalize upd H f (pinO f o) = H0 at s0 F0 ⊢
  have vn := DN.nodupV gr.d
  refine ⟨_, rfl, g, _, rfl, gr.d.same s0, fun og hog => ?_⟩
  rw [row_vals]
  have hog' : H g = some (pinO g og) := by
    obtain ⟨o1, e1⟩ := gr.d.pin
    have := s0 _ _ e1
    rw [hog] at this
    rw [e1, this]
  refine for_keysN (ks := vs) (fun i σ H' => Same H H' /\ ∃ (x2 : Option V) (l' : V -> Addr), σ = [some (.ref g), some (.ref f), x2] /\ DV P w κ H' f (vs.take i) (fun v => .ref (l' v)) /\ ∀ v ∈ vs.take i, H' (l' v) = some (.lst (E v))) ⟨s0, none, fun _ => 0, rfl, by rw [List.take_zero]; exact F0, fun v hv => by rw [List.take_zero] at hv; exact nomatch hv⟩ (fun i σ H' _ ⟨sm, _⟩ => sm _ _ hog') ?_ ?_
  · rintro i v σ H1 hx ⟨sm, x2, l', rfl, FF, hat⟩
    have vm := List.mem_of_getElem? hx
    have nd1 := nd.same sm
    have gr1 := gr.same sm
    have sub : ∀ k ∈ vs.take i, k ∈ vs := fun k hk => List.mem_of_mem_take hk
    have tk : vs.take (i + 1) = vs.take i ++ [v] := take_snocA hx
    have hnew : v ∉ vs.take i := fun z => by
      have : (vs.take (i + 1)).Nodup := vn.sublist (List.take_sublist _ _)
      rw [tk] at this
      exact (List.nodup_append.mp this).2.2 v z v (List.mem_singleton.mpr rfl) rfl
    refine ⟨_, rfl, _, rfl, g, _, κ v, _, rfl, gr1.d, nd1.key v vm, nd1.val (fun _ h => h) vm, l v, E v, rfl, .inl (SqL.of (gr1.at_ v vm)), fun L hL => ?_⟩
    have sL := same_new hL (.lst (E v))
    have hLv := upd_same (H := H1) (a := L) (o := .lst (E v))
    have nd2 := nd1.same sL
    have FF2 := FF.same sL
    have hat2 : ∀ u ∈ vs.take i, upd H1 L (.lst (E v)) (l' u) = some (.lst (E u)) := fun u hu => sL _ _ (hat u hu)
    generalize upd H1 L (.lst (E v)) = H2 at sL hLv nd2 FF2 hat2 ⊢
    refine ⟨_, rfl, _, rfl, f, _, κ v, rfl, FF2, nd2.key v vm, by rw [List.length_map, List.length_take]; exact Nat.lt_of_le_of_lt (show min i vs.length <= 1000 by omega) (by decide), fun o' ob' => ?_⟩
    have FF3 := DN.put FF2 (nd2.key v vm) ob'
    rw [nd2.new sub vm hnew, <- tk] at FF3
    obtain ⟨o2, ho2⟩ := DN.pin FF2
    refine ⟨same_upd hf (sm.trans sL), _, fun u => if u = v then L else l' u, rfl, ?_, fun u hu => ?_⟩
    · have : (setF (fun v => V.ref (l' v)) v (.ref L)) = fun u => .ref (if u = v then L else l' u) := by
        funext u
        unfold setF
        by_cases e : u = v
        · rw [if_pos e, if_pos e]
        · rw [if_neg e, if_neg e]
      rw [this] at FF3
      exact FF3
    · show upd H2 f (pinO f o') (if u = v then L else l' u) = _
      by_cases e : u = v
      · rw [if_pos e, e]
        exact pin_keep ho2 hLv fun o z => nomatch z
      · rw [if_neg e]
        refine pin_keep ho2 (hat2 u ?_) fun o z => nomatch z
        rw [tk] at hu
        rcases List.mem_append.mp hu with z | z
        · exact z
        · exact absurd (List.mem_singleton.mp z) e
  · rintro σ H1 ⟨sm, x2, l', rfl, FF, hat⟩
    rw [List.take_length] at FF hat
    exact ⟨_, rfl, q f l' H1 sm hf ⟨FF, hat, gr.sub, gr.len⟩⟩
end
end K31
namespace K31
open PySem L2
open WK (DS put put_same put_ne left left_done left_on left_new RingP Nr)
theorem passR0 {P : Program} {w : World} {X : Cx} : Passes (CXr P w) X E0 := fun _ _ _ _ _ _ _ h => by
  obtain ⟨_, _, _, _, _, _, _, z⟩ := h
  exact z.elim
def CF (ks : List V) (f : V -> V) (c : V -> Option Nat) : Prop := (∀ v ∈ ks, ∃ k : Nat, c v = some k /\ f v = .int (k : Int)) /\ ∀ v, v ∉ ks -> c v = none
theorem CF.old {ks : List V} {f : V -> V} {c : V -> Option Nat} (h : CF ks f c) {v : V} {k : Nat} (hv : v ∈ ks) : CF ks (setF f v (.int (k : Int))) (put c v k) := by
  refine ⟨fun u hu => ?_, fun u hu => ?_⟩
  · by_cases e : u = v
    · subst e
      exact ⟨k, put_same, setF_at⟩
    · obtain ⟨j, h1, h2⟩ := h.1 u hu
      exact ⟨j, by rw [put_ne e]; exact h1, by rw [setF_ne e]; exact h2⟩
  · have e : u ≠ v := fun z => hu (z ▸ hv)
    rw [put_ne e]
    exact h.2 u hu
theorem CF.new {ks : List V} {f : V -> V} {c : V -> Option Nat} (h : CF ks f c) {v : V} {k : Nat} : CF (ks ++ [v]) (setF f v (.int (k : Int))) (put c v k) := by
  refine ⟨fun u hu => ?_, fun u hu => ?_⟩
  · by_cases e : u = v
    · subst e
      exact ⟨k, put_same, setF_at⟩
    · obtain ⟨j, h1, h2⟩ := h.1 u (by
        rcases List.mem_append.mp hu with z | z
        · exact z
        · exact absurd (List.mem_singleton.mp z) e)
      exact ⟨j, by rw [put_ne e]; exact h1, by rw [setF_ne e]; exact h2⟩
  · have e : u ≠ v := fun z => hu (List.mem_append_right _ (List.mem_singleton.mpr z))
    rw [put_ne e]
    exact h.2 u fun z => hu (List.mem_append_left _ z)
theorem CF.mem {ks : List V} {f : V -> V} {c : V -> Option Nat} (h : CF ks f c) {v : V} : v ∈ ks ↔ (c v).isSome = true := by
  refine ⟨fun hv => ?_, fun hs => ?_⟩
  · obtain ⟨k, h1, _⟩ := h.1 v hv
    rw [h1]; rfl
  · by_cases hv : v ∈ ks
    · exact hv
    · rw [h.2 v hv] at hs; cases hs
def Kp (S : List Addr) (H H' : Hp) : Prop := ∀ b o, b ∉ S -> H b = some o -> H' b = some o
theorem Kp.of {S : List Addr} {H H' : Hp} (s : Same H H') : Kp S H H' := fun b o _ h => s b o h
theorem Kp.then {S : List Addr} {H H' H1 : Hp} (k : Kp S H H') (s : Same H' H1) : Kp S H H1 := fun b o n h => s b o (k b o n h)
theorem Kp.upd {S : List Addr} {H H' : Hp} {a : Addr} {o : HO} (k : Kp S H H') (h : a ∈ S) : Kp S H (upd H' a o) := fun b p n e => by
  rw [upd_ne (fun z => n (by rw [z]; exact h))]
  exact k b p n e
theorem Kp.updN {S : List Addr} {H H' : Hp} {a : Addr} {o : HO} (k : Kp S H H') (h : H a = none) : Kp S H (L2.upd H' a o) := fun b p n e => by
  rw [upd_ne (fun z => by rw [z, h] at e; cases e)]
  exact k b p n e
theorem Kp.nd {S : List Addr} {H H' : Hp} {κ : V -> NK} {vs : List V} (k : Kp S H H') (hS : ∀ a ∈ S, ∃ o, H a = some (pinO a o)) (n : Nd H κ vs) : Nd H' κ vs := n.to fun b ys e => k b _ (fun hb => by
  obtain ⟨o, ho⟩ := hS b hb
  rw [ho] at e
  cases e) e
theorem Kp.gr {P : Program} {w : World} {S : List Addr} {H H' : Hp} {κ : V -> NK} {g : Addr} {vs : List V} {l : V -> Addr} {E : V -> List V} (k : Kp S H H') (hS : ∀ a ∈ S, ∃ o, H a = some (pinO a o)) (hg : g ∉ S) (n : Gr P w κ H g vs l E) : Gr P w κ H' g vs l E := by
  obtain ⟨o1, e1⟩ := n.d.pin
  refine ⟨n.d.to (fun b ys e => k b _ (fun hb => ?_) e) ?_, fun v hv => k _ _ (fun hb => ?_) (n.at_ v hv), n.sub, n.len⟩
  · obtain ⟨o, ho⟩ := hS b hb
    rw [ho] at e
    cases e
  · rw [k g _ hg e1, e1]
  · obtain ⟨o, ho⟩ := hS _ hb
    have := n.at_ v hv
    rw [ho] at this
    cases this
def spSettle (P : Program) (w : World) (R : Addr) : Sp := fun as H Q X => ∃ (g la se : Addr) (p : V) (κ : V -> NK) (vs : List V) (l : V -> Addr) (E : V -> List V) (ks : List V) (f : V -> V) (c : V -> Option Nat) (z : List V) (tz : V -> V),
  as = [.ref g, p, .ref la, .ref se] /\ Nd H κ vs /\ Gr P w κ H g vs l E /\ p ∈ vs /\ vs.length <= 50 /\ DV P w κ H la ks f /\ CF ks f c /\ DV P w κ H se z tz /\ DS E vs [] c z /\ p ∉ z /\ la ≠ se /\ g ≠ la /\ g ≠ se /\
  (∀ ks' f' c' z' tz' H', Kp [la, se] H H' -> DV P w κ H' la ks' f' -> CF ks' f' c' -> DV P w κ H' se z' tz' -> DS E vs [] c' z' -> p ∈ z' -> (∀ x ∈ z, x ∈ z') -> Q .non H') /\
  ∀ dx L r H', Kp [la, se] H H' -> H' dx = some (.xd [("ring", .ref L)]) -> H' L = some (.lst r) -> RingP E r -> (∀ x ∈ r, x ∈ vs) -> X (.ref R) (some dx) H'
section
variable {P : Program} {w : World} {K : PySem.W.Frag} {mg : Str -> Option Value} {base : Heap} {T : Adr}
theorem ok_init (X : Tx K mg T) : FnOk P w K mg base CX0 1 T.qinit T.d_qinit ["self", "ring"] (spInit K T.k_Ring T.qinit) := by
  refine X.F_qinit.okQ sc_qinit (fun vs H Q E h => ?_) (fun cdv A outer s H vs Q E hr h => ?_)
  · obtain ⟨_, _, _, _, _, rfl, _⟩ := h
    rfl
  obtain ⟨e, l, t, xs, sl, rfl, rg, he, hl, q⟩ := h
  refine ⟨_, (qss_one (qs_fldX rfl (qv 0) (qe_callTy call_list_of rfl X.z_list PyProof.Rows.boot_list (qaN (qv 1) qa_nil)))), ?_⟩
  refine ⟨_, rfl, l, _, rfl, .inl (SqL.of hl), fun L hL => ?_⟩
  have ne : e ≠ L := fun z => by rw [z, hL] at he; cases he
  refine ⟨_, rfl, e, T.k_Ring, T.qinit, t, sl, rfl, rfl, rg, by rw [upd_ne ne]; exact he, fun dx hdx => ?_⟩
  have nd : dx ≠ L := fun z => by rw [z, upd_same] at hdx; cases hdx
  exact q L dx hL (by rw [upd_ne nd] at hdx; exact hdx) (Ne.symm nd)
end
end K31
namespace K31
open PySem L2
open WK (DS put put_same put_ne left left_done left_on left_new RingP Nr)
theorem snoc_of {α : Type} {l : List α} (h : l ≠ []) : ∃ t p, l = t ++ [p] := ⟨l.dropLast, l.getLast h, (List.dropLast_concat_getLast h).symm⟩
theorem atI_lastV (xs : List V) (y : V) : atI (xs ++ [y]) (-1) = some y := by
  have e : ixN (xs ++ [y]).length (-1) = some xs.length := by
    unfold ixN
    rw [List.length_append, List.length_singleton, if_neg (by decide), if_pos (by omega)]
    congr 1
    omega
  unfold atI
  rw [e]
  show (xs ++ [y])[xs.length]? = _
  simp
theorem pair_pin {P : Program} {w : World} {κ : V -> NK} {H : Hp} {la se : Addr} {ks z : List V} {f tz : V -> V} (a : DV P w κ H la ks f) (b : DV P w κ H se z tz) : ∀ x ∈ [la, se], ∃ o, H x = some (pinO x o) := fun x hx => by
  rcases List.mem_cons.mp hx with rfl | hx
  · exact a.pin
  · rw [List.mem_singleton.mp hx]; exact b.pin
section
variable {P : Program} {w : World} {K : PySem.W.Frag} {mg : Str -> Option Value} {base : Heap} {T : Adr}
theorem ok_settle (X : Tx K mg T) : FnOk P w K mg base (CXr P w) 3 T.qsettle T.d_qsettle ["graph", "start", "looked_at", "settled"] (spSettle P w T.k_Ring) := by
  have G_qinit := ok_init (P := P) (w := w) (base := base) X
  refine X.F_qsettle.okR sc_qsettle (fun vs H Q E h => ?_) (fun cdv A outer s H vs Q E hr h => ?_)
  · obtain ⟨_, _, _, _, _, _, _, _, _, _, _, _, _, rfl, _⟩ := h
    rfl
  obtain ⟨g, la, se, p, κ, vs, l, G, ks, f, c, z, tz, rfl, nd, gr, hp, l50, hla, cf, hse, ds, hpz, nls, ngl, ngs, q, qx⟩ := h
  refine ⟨_, (qss_cons (qs_set (i := 4) sc_qsettle.nd rfl (Or.inl rfl) (qe_lst (qaN (qv 1) qa_nil))) (qss_cons (qs_dputN hr.un80 (qv 2) (qv 1) qe_int) (qss_one (qs_while PassesOwn.leaving (qt_truth (qv 4) (fun _ => rfl)) (qss_cons (qs_set (i := 5) sc_qsettle.nd rfl (Or.inl rfl) (qe_ix ix_list (qv 4) (qe_un un_neg qe_int) (fun _ _ => rfl))) (qss_one (qs_if (qt_cmpR op_eq (qe_dgetN hr.un80 (qv 2) (qv 5)) (qe_callB call_len_seq rfl X.z_len PySem.boot_len (qaS (qe_dgetN hr.un80 (qv 0) (qv 5)) qa_nil)) (nomark _)) (qss_cons (qs_dputN hr.un80 (qv 3) (qv 5) qe_bl) (qss_one (qs_expr (qe_bm0 PySem.F.plainAttrs_list PySem.F.slot_list_pop PySem.F.type_list_pop mt_pop (qv 4))))) (qss_cons (qs_set (i := 6) sc_qsettle.nd rfl (Or.inl rfl) (qe_ix ix_list (qe_dgetN hr.un80 (qv 0) (qv 5)) (qe_dgetN hr.un80 (qv 2) (qv 5)) (fun _ _ => rfl))) (qss_cons (qs_augS (qv 2) (qv 5) (get_N hr.un80) qe_int ip_add (set_N hr.un80)) (qss_one (qs_if (qt_cmpR (op_notInN hr.un80) (qv 6) (qv 2) rfl) (qss_cons (qs_expr (qe_bm PySem.F.plainAttrs_list PySem.F.slot_list_append PySem.F.type_list_append mt_append (qv 4) (qaN (qv 6) qa_nil))) (qss_one (qs_dputN hr.un80 (qv 2) (qv 6) qe_int))) (qss_one (qs_if (qt_cmpR (op_notInN hr.un80) (qv 6) (qv 3) rfl) (qss_one (qs_raiseI (EX := fun dx H' => E (.ref T.k_Ring) (some dx) H') G_qinit hr X.r_Ring X.b_qinit rfl rfl rfl X.m_Ring (qaS (qe_slice sl_list (qv 4) (qo_some (qe_bm PySem.F.plainAttrs_list PySem.F.slot_list_index PySem.F.type_list_index (mt_idxN hr.un80) (qv 4) (qaN (qv 6) qa_nil))) qo_none) qa_nil) xe_raiseR)) qss_nil))))))))))))), ?_⟩
  have hS := pair_pin hla hse
  have gS : g ∉ [la, se] := by simp [ngl, ngs]
  refine ⟨_, rfl, (by show 1 <= sizeLine; decide), fun Tr hTr => ?_⟩
  have s0 := same_new hTr (.lst [p])
  have hT0 := upd_same (H := H) (a := Tr) (o := .lst [p])
  have hla0 := hla.same s0
  have hse0 := hse.same s0
  have nd0 := nd.same s0
  generalize upd H Tr (.lst [p]) = H0 at s0 hT0 hla0 hse0 nd0 ⊢
  have pk : p ∉ ks := fun hh => by
    have := (ds.lk p).mp (cf.mem.mp hh)
    rcases this with h | h
    · exact nomatch h
    · exact hpz h
  have ksub : ∀ k ∈ ks, k ∈ vs := fun k hk => by
    rcases (ds.lk k).mp (cf.mem.mp hk) with h | h
    · exact nomatch h
    · exact ds.uz k h
  have lks : ks.length <= vs.length := nd_subV (DN.nodupV hla) ksub
  refine ⟨_, rfl, _, rfl, la, _, κ p, rfl, hla0, nd0.key p hp, by rw [List.length_map]; exact Nat.lt_of_le_of_lt (show ks.length <= 1000 by omega) (by decide), fun o1 ob1 => ?_⟩
  have hla1 := DN.put hla0 (nd0.key p hp) ob1
  rw [nd0.new ksub hp pk] at hla1
  obtain ⟨ola, hola⟩ := hla0.pin
  obtain ⟨ose, hose⟩ := hse0.pin
  have hT1 := pin_keep (o' := o1) hola hT0 fun o z => nomatch z
  have hse1 : DV P w κ (upd H0 la (pinO la o1)) se z tz := hse0.to (fun b ys e => by rw [upd_ne (ne_of e hola (fun z => nomatch z))]; exact e) (by rw [upd_ne (Ne.symm nls)])
  have k1 : Kp [la, se] H (upd H0 la (pinO la o1)) := (Kp.of s0).upd (by simp)
  generalize upd H0 la (pinO la o1) = H1 at hla1 hT1 hse1 k1 ⊢
  clear hT0 hla0 hse0 nd0 ob1 hola hose s0
  refine ⟨fun m σ H' => ∃ (tr ks : List V) (f : V -> V) (c : V -> Option Nat) (zz : List V) (tz : V -> V) (x5 x6 : Option V), m = left G vs c zz /\ σ = [some (.ref g), some p, some (.ref la), some (.ref se), some (.ref Tr), x5, x6] /\ Kp [la, se] H H' /\ DV P w κ H' la ks f /\ CF ks f c /\ DV P w κ H' se zz tz /\ DS G vs tr c zz /\ H' Tr = some (.lst tr) /\ (p ∈ tr \/ p ∈ zz) /\ ∀ x ∈ z, x ∈ zz,
    ⟨_, [p], _, _, _, z, tz, none, none, rfl, rfl, k1, hla1, CF.new (k := 0) cf, hse1, ds.start hp hpz, hT1, .inl (by simp), fun _ h => h⟩, ?_⟩
  clear k1 hla1 hse1 hT1 hla hse cf ds lks ksub pk hpz ks f c tz
  rintro m σ H2 ⟨tr, ks, f, c, zz, tz, x5, x6, rfl, rfl, kp, hla, cf, hse, ds, hT, hpin, hzz⟩
  have nd2 := kp.nd hS nd
  have gr2 := kp.gr hS gS gr
  have ksub : ∀ k ∈ ks, k ∈ vs := fun k hk => by
    rcases (ds.lk k).mp (cf.mem.mp hk) with h | h
    · exact ds.ut k h
    · exact ds.uz k h
  have lks : ks.length <= vs.length := nd_subV (DN.nodupV hla) ksub
  have lzz : zz.length <= vs.length := nd_subV ds.ndz ds.uz
  have ltr : tr.length <= vs.length := nd_subV ds.ndt ds.ut
  obtain ⟨ola, hola⟩ := hla.pin
  obtain ⟨ose, hose⟩ := hse.pin
  refine ⟨_, rfl, _, .inl ⟨_, SqL.of hT, rfl⟩, ?_⟩
  by_cases tne : tr = []
  · subst tne
    refine iteN rfl ?_
    refine q ks f c zz tz H2 kp hla cf hse ds ?_ hzz
    rcases hpin with h | h
    · exact nomatch h
    · exact h
  refine iteY (by cases tr with | nil => exact absurd rfl tne | cons a b => rfl) ⟨_, fun σ' H'' h => h, ?_⟩
  obtain ⟨t, v, rfl⟩ := snoc_of tne
  have vm : v ∈ vs := ds.ut v (by simp)
  have vks : v ∈ ks := cf.mem.mpr ((ds.lk v).mpr (.inl (by simp)))
  obtain ⟨k, hck, hfk⟩ := cf.1 v vks
  have vz : v ∉ zz := ds.dis v (by simp)
  refine ⟨_, rfl, _, rfl, Tr, _, _, v, rfl, rfl, SqL.of hT, atI_lastV t v, ?_⟩
  dsimp only [gName]
  have hE := gr2.at_ v vm
  have hval : valM (ks.map (row κ f)) (κ v) = some (.int (k : Int)) := by rw [nd2.val ksub vks, hfk]
  refine ⟨_, rfl, _, rfl, la, _, κ v, _, rfl, hla, nd2.key v vm, hval, _, rfl, _, rfl, g, _, κ v, _, rfl, gr2.d, nd2.key v vm, nd2.val (fun _ h => h) vm, l v, _, rfl, .inl (SqL.of hE), rfl, _, rfl, ?_⟩
  dsimp only
  rw [dI]
  refine iteD (fun hk => ?_) (fun hk => ?_)
  · -- done with it
    refine ⟨_, rfl, _, rfl, se, _, κ v, rfl, hse, nd2.key v vm, by rw [List.length_map]; exact Nat.lt_of_le_of_lt (show zz.length <= 1000 by omega) (by decide), fun o3 ob3 => ?_⟩
    have hse3 := DN.put hse (nd2.key v vm) ob3
    rw [nd2.new ds.uz vm vz] at hse3
    have hT3 := pin_keep (o' := o3) hose hT fun o z => nomatch z
    have hla3 : DV P w κ (upd H2 se (pinO se o3)) la ks f := hla.to (fun b ys e => by rw [upd_ne (ne_of e hose (fun z => nomatch z))]; exact e) (by rw [upd_ne nls])
    have k3 : Kp [la, se] H (upd H2 se (pinO se o3)) := kp.upd (by simp)
    generalize upd H2 se (pinO se o3) = H3 at hse3 hT3 hla3 k3 ⊢
    refine ⟨_, rfl, .inl ⟨rfl, _, SqL.of hT3⟩, Tr, _, v, rfl, rfl, hT3, by simp, ?_⟩
    refine ⟨_, left_done vm vz, t, ks, f, c, zz ++ [v], _, _, _, rfl, rfl, k3.updN hTr, DN.lset hla3 hT3, cf, DN.lset hse3 hT3, ds.done hck (by omega), by rw [upd_same, List.dropLast_concat], ?_, fun x hx => List.mem_append_left _ (hzz x hx)⟩
    rcases hpin with h | h
    · rcases List.mem_append.mp h with h | h
      · exact .inl h
      · exact .inr (List.mem_append_right _ h)
    · exact .inr (List.mem_append_left _ h)
  · have hkl : k < (G v).length := by
      have := ds.cl v k hck
      omega
    obtain ⟨e, he⟩ := some_of_lt hkl
    have em : e ∈ vs := gr.sub v vm e (List.mem_of_getElem? he)
    refine ⟨_, rfl, _, rfl, g, _, κ v, _, rfl, gr2.d, nd2.key v vm, nd2.val (fun _ h => h) vm, _, rfl, _, rfl, la, _, κ v, _, rfl, hla, nd2.key v vm, hval, l v, _, _, e, rfl, rfl, SqL.of hE, atI_nat he, ?_⟩
    dsimp only [gName]
    refine ⟨_, rfl, _, rfl, la, _, κ v, _, rfl, hla, nd2.key v vm, hval, _, _, rfl, rfl, la, _, κ v, rfl, hla, nd2.key v vm, by rw [List.length_map]; exact Nat.lt_of_le_of_lt (show ks.length <= 1000 by omega) (by decide), fun o3 ob3 => ?_⟩
    have hla3 := DN.put hla (nd2.key v vm) ob3
    rw [nd2.old ksub vks] at hla3
    dsimp only at hla3
    rw [show ((k : Int) + 1) = ((k + 1 : Nat) : Int) by omega] at hla3
    have cf3 := CF.old (k := k + 1) cf vks
    have hT3 := pin_keep (o' := o3) hola hT fun o z => nomatch z
    have hse3 : DV P w κ (upd H2 la (pinO la o3)) se zz tz := hse.to (fun b ys e => by rw [upd_ne (ne_of e hola (fun z => nomatch z))]; exact e) (by rw [upd_ne (Ne.symm nls)])
    have k3 : Kp [la, se] H (upd H2 la (pinO la o3)) := kp.upd (by simp)
    generalize upd H2 la (pinO la o3) = H3 at hla3 hT3 hse3 k3 ⊢
    clear ob3 hla hT hse kp nd2 gr2 hE hval hola hose
    have nd3 := k3.nd hS nd
    have less := left_on (E := G) (U := vs) (c := c) (z := zz) vm hck hkl
    refine ⟨_, rfl, _, rfl, la, _, κ e, rfl, hla3, nd3.key e em, _, rfl, ?_⟩
    rw [nd3.has ksub em]
    refine iteND (fun hn => ?_) (fun hin => ?_)
    · have cn : c e = none := cf.2 e hn
      refine ⟨_, rfl, .inl ⟨rfl, _, SqL.of hT3⟩, _, rfl, Tr, _, e, rfl, rfl, hT3, Nat.lt_of_le_of_lt (show (t ++ [v]).length <= 1000 by omega) (by decide), ?_⟩
      have k4 : Kp [la, se] H (upd H3 Tr (.lst (t ++ [v] ++ [e]))) := k3.updN hTr
      have hT4 := upd_same (H := H3) (a := Tr) (o := .lst (t ++ [v] ++ [e]))
      have hla4 : DV P w κ (upd H3 Tr (.lst (t ++ [v] ++ [e]))) la ks _ := DN.lset hla3 hT3
      have hse4 : DV P w κ (upd H3 Tr (.lst (t ++ [v] ++ [e]))) se zz tz := DN.lset hse3 hT3
      generalize upd H3 Tr (.lst (t ++ [v] ++ [e])) = H4 at k4 hT4 hla4 hse4 ⊢
      have nd4 := k4.nd hS nd
      refine ⟨_, rfl, _, rfl, la, _, κ e, rfl, hla4, nd4.key e em, by rw [List.length_map]; exact Nat.lt_of_le_of_lt (show ks.length <= 1000 by omega) (by decide), fun o5 ob5 => ?_⟩
      have hla5 := DN.put hla4 (nd4.key e em) ob5
      rw [nd4.new ksub em hn] at hla5
      obtain ⟨ola4, hola4⟩ := hla4.pin
      have hT5 := pin_keep (o' := o5) hola4 hT4 fun o z => nomatch z
      have hse5 : DV P w κ (upd H4 la (pinO la o5)) se zz tz := hse4.to (fun b ys e => by rw [upd_ne (ne_of e hola4 (fun z => nomatch z))]; exact e) (by rw [upd_ne (Ne.symm nls)])
      have pn : put c v (k + 1) e = none := by
        have : e ≠ v := fun z => hn (z ▸ vks)
        rw [put_ne this]; exact cn
      refine ⟨left G vs (put (put c v (k + 1)) e 0) zz, by rw [left_new pn]; exact less, t ++ [v] ++ [e], _, _, _, zz, tz, _, _, rfl, rfl, k4.upd (by simp), hla5, CF.new (k := 0) cf3, hse5, ds.push hck he cn em, hT5, ?_, hzz⟩
      rcases hpin with h | h
      · exact .inl (List.mem_append_left _ h)
      · exact .inr h
    · refine ⟨_, rfl, _, rfl, se, _, κ e, rfl, hse3, nd3.key e em, _, rfl, ?_⟩
      rw [nd3.has ds.uz em]
      refine iteND (fun hn => ?_) (fun hz => ?_)
      · -- a ring
        have etr : e ∈ t ++ [v] := by
          rcases (ds.lk e).mp (cf.mem.mp hin) with h | h
          · exact h
          · exact absurd h hn
        obtain ⟨i, hi⟩ := List.getElem?_of_mem etr
        have tin : ∀ x ∈ t ++ [v], x ∈ vs := ds.ut
        refine ⟨_, rfl, _, rfl, .inl ⟨rfl, _, SqL.of hT3⟩, _, rfl, Tr, _, e, κ, i, e, rfl, rfl, SqL.of hT3, fun x hx => nd3.key x (tin x hx), nd3.key e em, hi, rfl, fun m y hm hy hk => ?_, _, rfl, Tr, _, rfl, SqL.of hT3, fun B hB => ?_⟩
        · have e2 := nd3.inj y (tin y (List.mem_of_getElem? hy)) e em hk
          subst e2
          have := (List.getElem?_inj (lt_of_some hy) ds.ndt).mp (hy.trans hi.symm)
          omega
        · rw [cut_drop']
          have s4 := same_new hB (.lst ((t ++ [v]).drop i))
          refine ⟨B, _, rfl, upd_same, fun L dx hL hdx nLd => ?_⟩
          have s5 := same_new hL (.lst ((t ++ [v]).drop i))
          have hdx' : upd (upd H3 B (.lst ((t ++ [v]).drop i))) L (.lst ((t ++ [v]).drop i)) dx = none := by rw [upd_ne (Ne.symm nLd)]; exact hdx
          have s6 := same_new hdx' (.xd [("ring", .ref L)])
          exact qx dx L ((t ++ [v]).drop i) _ (((k3.then s4).then s5).then s6) upd_same (s6 _ _ upd_same) (ds.ring hck he hi) fun x hx => tin x (List.mem_of_mem_drop hx)
      · exact ⟨_, less, t ++ [v], ks, _, _, zz, tz, _, _, rfl, rfl, k3, hla3, cf3, hse3, ds.skip hck he hz, hT3, hpin, hzz⟩
end
end K31
namespace K31
open PySem L2
open WK (DS put put_same put_ne left left_done left_on left_new RingP Nr)
theorem boot_VE : bootBuiltins "ValueError" = some (.type "ValueError") := by decide +kernel
structure Ord (E : V -> List V) (vs z : List V) : Prop where
  nd : z.Nodup
  all : ∀ v ∈ vs, v ∈ z
  sub : ∀ v ∈ z, v ∈ vs
  ord : ∀ (i : Nat) p, z[i]? = some p -> ∀ e ∈ E p, e ∈ z.take i
def Acy (E : V -> List V) (vs : List V) : Prop := ∀ v ∈ vs, ¬ Nr E v v
theorem Acy.no {E : V -> List V} {vs r : List V} (a : Acy E vs) (g : RingP E r) (h : ∀ x ∈ r, x ∈ vs) : False := by
  obtain ⟨p, hp, n⟩ := g.cyc
  exact a p (h p hp) n
def spOrder (P : Program) (w : World) (R : Addr) : Sp := fun as H Q X => ∃ (g : Addr) (κ : V -> NK) (vs : List V) (l : V -> Addr) (E : V -> List V), as = [.ref g] /\ Nd H κ vs /\ Gr P w κ H g vs l E /\ vs.length <= 50 /\
  (∀ r z H', Same H H' -> H r = none -> H' r = some (.lst z) -> Ord E vs z -> Acy E vs -> Q (.ref r) H') /\
  ∀ dx L r H', Same H H' -> H' dx = some (.xd [("ring", .ref L)]) -> H' L = some (.lst r) -> RingP E r -> (∀ x ∈ r, x ∈ vs) -> X (.ref R) (some dx) H'
def spRingIn (P : Program) (w : World) : Sp := fun as H Q _ => ∃ (g : Addr) (κ : V -> NK) (vs : List V) (l : V -> Addr) (E : V -> List V), as = [.ref g] /\ Nd H κ vs /\ Gr P w κ H g vs l E /\ vs.length <= 50 /\
  (∀ H', Same H H' -> Acy E vs -> Q .non H') /\ ∀ L r H', Same H H' -> H' L = some (.lst r) -> RingP E r -> (∀ x ∈ r, x ∈ vs) -> Q (.ref L) H'
def spOrdered (P : Program) (w : World) : Sp := fun as H Q _ => ∃ (g : Addr) (κ : V -> NK) (vs : List V) (l : V -> Addr) (E : V -> List V), as = [.ref g] /\ Nd H κ vs /\ Gr P w κ H g vs l E /\ vs.length <= 50 /\
  (∀ t r z H', Same H H' -> H' t = some (.lst [.non, .ref r, .bl true]) -> H' r = some (.lst z) -> Ord E vs z -> Acy E vs -> Q (.ref t) H') /\ ∀ t L r H', Same H H' -> H' t = some (.lst [.ref L, .non, .bl true]) -> H' L = some (.lst r) -> RingP E r -> (∀ x ∈ r, x ∈ vs) -> Q (.ref t) H'
section
variable {P : Program} {w : World} {K : PySem.W.Frag} {mg : Str -> Option Value} {base : Heap} {T : Adr}
theorem ok_order (X : Tx K mg T) : FnOk P w K mg base (CXr P w) 4 T.qorderof T.d_qorderof ["graph"] (spOrder P w T.k_Ring) := by
  have G_qsettle := ok_settle (P := P) (w := w) (base := base) X
  refine X.F_qorderof.okR sc_qorderof (fun vs H Q E h => ?_) (fun cdv A outer s H vs Q E hr h => ?_)
  · obtain ⟨_, _, _, _, _, rfl, _⟩ := h
    rfl
  obtain ⟨g, κ, vs, l, G, rfl, nd, gr, l50, q, qx⟩ := h
  refine ⟨_, (qss_cons (qs_set (i := 1) sc_qorderof.nd rfl (Or.inl rfl) qe_dnewN) (qss_cons (qs_set (i := 2) sc_qorderof.nd rfl (Or.inl rfl) qe_dnewN) (qss_cons (qs_for PassesOwn.leaving rfl (qi_keysN (qv 0)) (qg_name (i := 3) sc_qorderof.nd rfl (Or.inl rfl)) (qss_one (qs_if (qt_cmpR (op_notInN hr.un80) (qv 3) (qv 2) rfl) (qss_one (qs_expr (qe_call G_qsettle hr rfl X.m_qsettle X.F_qsettle.kp X.b_qsettle .nil pass_onR (qaN (qv 0) (qaN (qv 3) (qaN (qv 1) (qaN (qv 2) qa_nil))))))) qss_nil))) (qss_one (qs_ret (qe_listN rfl rfl X.z_list (qv 2))))))), ?_⟩
  intro la o1 hla ob1
  have s1 := same_new hla (pinO la o1)
  have F1 : DV P w κ (upd H la (pinO la o1)) la [] (fun _ => V.non) := DN.new (H := H) ob1
  generalize upd H la (pinO la o1) = H1 at s1 F1 ⊢
  dsimp only [gName]
  intro se o2 hse ob2
  have s2 := same_new hse (pinO se o2)
  have F2 : DV P w κ (upd H1 se (pinO se o2)) se [] (fun _ => V.non) := DN.new (H := H1) ob2
  have F12 := F1.same s2
  have hse0 : H se = none := s1.free hse
  have nls : la ≠ se := fun z => by
    obtain ⟨o, e⟩ := F1.pin
    rw [z, hse] at e
    cases e
  generalize upd H1 se (pinO se o2) = H2 at s2 F2 F12 ⊢
  dsimp only [gName]
  have s12 := s1.trans s2
  obtain ⟨og0, hg0⟩ := gr.d.pin
  have ngl : g ≠ la := fun z => by rw [z, hla] at hg0; cases hg0
  have ngs : g ≠ se := fun z => by rw [z, hse0] at hg0; cases hg0
  have up : ∀ {Ha Hb : Hp}, Same H Ha -> Kp [la, se] Ha Hb -> Same H Hb := fun sa kb b o e => kb b o (by
    have h1 : b ≠ la := fun z => by rw [z, hla] at e; cases e
    have h2 : b ≠ se := fun z => by rw [z, hse0] at e; cases e
    simp [h1, h2]) (sa b o e)
  refine ⟨_, rfl, g, _, rfl, gr.d.same s12, fun og hog => ?_⟩
  rw [row_vals]
  have hog' : H g = some (pinO g og) := by
    have := s12 _ _ hg0
    rw [hog] at this
    rw [hg0, this]
  refine for_keysN (ks := vs) (fun i σ H' => ∃ (x3 : Option V) (ks : List V) (f : V -> V) (c : V -> Option Nat) (z : List V) (tz : V -> V), σ = [some (.ref g), some (.ref la), some (.ref se), x3] /\ Same H H' /\ DV P w κ H' la ks f /\ CF ks f c /\ DV P w κ H' se z tz /\ DS G vs [] c z /\ ∀ v ∈ vs.take i, v ∈ z)
    ⟨none, [], _, fun _ => none, [], _, rfl, s12, F12, ⟨(fun v hv => nomatch hv), fun v _ => rfl⟩, F2, DS.nil, fun v hv => by rw [List.take_zero] at hv; exact nomatch hv⟩ (fun i σ H' _ ⟨_, _, _, _, _, _, _, sm, _⟩ => sm _ _ hog') ?_ ?_
  · rintro i v σ H3 hx ⟨x3, ks, f, c, z, tz, rfl, sm, FL, cf, FZ, ds, all⟩
    have vm := List.mem_of_getElem? hx
    have nd3 := nd.same sm
    have tk : vs.take (i + 1) = vs.take i ++ [v] := take_snocA hx
    refine ⟨_, rfl, _, rfl, se, _, κ v, rfl, FZ, nd3.key v vm, _, rfl, ?_⟩
    rw [nd3.has ds.uz vm]
    refine iteND (fun hn => ?_) (fun hin => ?_)
    · refine ⟨_, rfl, _, rfl, _, rfl, _, rfl, g, la, se, v, κ, vs, l, G, ks, f, c, z, tz, rfl, nd3, gr.same sm, vm, l50, FL, cf, FZ, ds, hn, nls, ngl, ngs, fun ks' f' c' z' tz' H4 k4 FL' cf' FZ' ds' pz zz => ?_, fun dx L r H4 k4 hdx hL rg rs => qx dx L r H4 (up sm k4) hdx hL rg rs⟩
      refine ⟨_, ks', f', c', z', tz', rfl, up sm k4, FL', cf', FZ', ds', fun u hu => ?_⟩
      rw [tk] at hu
      rcases List.mem_append.mp hu with h | h
      · exact zz u (all u h)
      · rw [List.mem_singleton.mp h]; exact pz
    · refine ⟨_, ks, f, c, z, tz, rfl, sm, FL, cf, FZ, ds, fun u hu => ?_⟩
      rw [tk] at hu
      rcases List.mem_append.mp hu with h | h
      · exact all u h
      · rw [List.mem_singleton.mp h]; exact hin
  · rintro σ H3 ⟨x3, ks, f, c, z, tz, rfl, sm, FL, cf, FZ, ds, all⟩
    rw [List.take_length] at all
    refine ⟨_, rfl, se, _, rfl, FZ, fun r hr' => ?_⟩
    rw [row_vals]
    exact q r z _ (sm.trans (same_new hr' _)) (sm.free hr') upd_same ⟨ds.ndz, all, ds.uz, ds.ord⟩ fun v hv => ds.acyc (all v hv)
theorem ok_ringin (X : Tx K mg T) : FnOk P w K mg base CX0 5 T.qringin T.d_qringin ["graph"] (spRingIn P w) := by
  have G_qorderof := ok_order (P := P) (w := w) (base := base) X
  refine X.F_qringin.okQ sc_qringin (fun vs H Q E h => ?_) (fun cdv A outer s H vs Q E hr h => ?_)
  · obtain ⟨_, _, _, _, _, rfl, _⟩ := h
    rfl
  obtain ⟨g, κ, vs, l, G, rfl, nd, gr, l50, q0, q⟩ := h
  refine ⟨_, (qss_cons (qs_tryXR (i := 1) G_qorderof hr rfl X.m_qorderof X.F_qorderof.kp X.b_qorderof (qaN (qv 0) qa_nil) rfl X.m_Ring (.inr X.r_Ring.ex) sc_qringin.nd rfl rfl rfl rfl rfl (fun _ => (qss_one (qs_ret (qe_ringC (K := K) rfl (qv 1)))))) (qss_one (qs_ret qe_non))), ?_⟩
  refine ⟨_, rfl, g, κ, vs, l, G, rfl, nd, gr, l50, fun r z H1 s1 hr1 hrz ord acy => q0 H1 s1 acy, fun dx L r H1 s1 hdx hL rg rs => ⟨T.k_Ring, dx, rfl, rfl, X.r_Ring.ex, X.u_Ring_Ring, fun a ha => ?_⟩⟩
  have s2 := same_new ha (excR a T.k_Ring dx)
  exact ⟨_, rfl, a, T.k_Ring, T.qinit, dx, _, .ref L, rfl, rfl, X.r_Ring, upd_same, s2 _ _ hdx, rfl, q L r _ (s1.trans s2) (s2 _ _ hL) rg rs⟩
theorem ok_ordered (X : Tx K mg T) : FnOk P w K mg base CX0 5 T.qordered T.d_qordered ["_law_graph_here"] (spOrdered P w) := by
  have G_qorderof := ok_order (P := P) (w := w) (base := base) X
  refine X.F_qordered.okQ sc_qordered (fun vs H Q E h => ?_) (fun cdv A outer s H vs Q E hr h => ?_)
  · obtain ⟨_, _, _, _, _, rfl, _⟩ := h
    rfl
  obtain ⟨g, κ, vs, l, G, rfl, nd, gr, l50, q0, q⟩ := h
  refine ⟨_, (qss_cons (qs_set (i := 1) sc_qordered.nd rfl (Or.inl rfl) qe_non) (qss_cons (qs_set (i := 2) sc_qordered.nd rfl (Or.inl rfl) qe_non) (qss_cons (qs_set (i := 3) sc_qordered.nd rfl (Or.inl rfl) qe_bl) (qss_cons (qs_tryXA (i := 4) (j := 2) G_qorderof hr rfl X.m_qorderof X.F_qorderof.kp X.b_qorderof (qaN (qv 0) qa_nil) rfl X.m_Ring (.inr X.r_Ring.ex) sc_qordered.nd rfl rfl rfl rfl rfl rfl rfl (fun _ => (qss_cons (qs_set (i := 1) sc_qordered.nd rfl (Or.inl rfl) (qe_ringC (K := K) rfl (qv 4))) (qss_cons (qs_set (i := 3) sc_qordered.nd rfl (Or.inl rfl) (qe_and (qe_callB (call_isRC (K := K) rfl) rfl X.z_isinstance PyProof.Rows.boot_isinstance (qaN (qv 4) (qaN (qe_glob rfl X.m_LeafError (v := V.ref T.k_LeafError) rfl) qa_nil))) (qe_one (qe_callB (call_isRC (K := K) rfl) rfl X.z_isinstance PyProof.Rows.boot_isinstance (qaN (qv 4) (qaN (qe_bltn rfl X.z_ValueError boot_VE rfl (v := .ty "ValueError")) qa_nil)))))) (qss_one (qs_if (qt_val (qe_callB (call_isRC (K := K) rfl) rfl X.z_isinstance PyProof.Rows.boot_isinstance (qaN (qv 4) (qaT (qe_tup (qaN (qe_glob rfl X.m_NoText (v := V.ref T.k_NoText) rfl) (qaN (qe_glob rfl X.m_TooGreat (v := V.ref T.k_TooGreat) rfl) (qaN (qe_glob rfl X.m_NoName (v := V.ref T.k_NoName) rfl) (qaN (qe_glob rfl X.m_NoRule (v := V.ref T.k_NoRule) rfl) (qaN (qe_glob rfl X.m_NoKind (v := V.ref T.k_NoKind) rfl) (qaN (qe_glob rfl X.m_NoTree (v := V.ref T.k_NoTree) rfl) (qaN (qe_glob rfl X.m_NoPlace (v := V.ref T.k_NoPlace) rfl) (qaN (qe_glob rfl X.m_NoGiven (v := V.ref T.k_NoGiven) rfl) (qaN (qe_glob rfl X.m_NoWalk (v := V.ref T.k_NoWalk) rfl) qa_nil)))))))))) qa_nil)))) (qss_one (qs_set (i := 3) sc_qordered.nd rfl (Or.inl rfl) qe_bl)) qss_nil)))))) (qss_one (qs_ret (qe_lst (qaN (qv 1) (qaN (qv 2) (qaN (qv 3) qa_nil)))))))))), ?_⟩
  refine ⟨_, rfl, g, κ, vs, l, G, rfl, nd, gr, l50, fun r z H1 s1 hr1 hrz ord acy => ?_, fun dx L r H1 s1 hdx hL rg rs => ⟨T.k_Ring, dx, rfl, rfl, X.r_Ring.ex, X.u_Ring_Ring, fun a ha => ?_⟩⟩
  · refine ⟨_, rfl, _, rfl, _, rfl, (by show 3 <= sizeLine; decide), fun t ht => ?_⟩
    have s2 := same_new ht (.lst [.non, .ref r, .bl true])
    exact q0 t r z _ (s1.trans s2) upd_same (s2 _ _ hrz) ord acy
  · have s2 := same_new ha (excR a T.k_Ring dx)
    have hx := upd_same (H := H1) (a := a) (o := excR a T.k_Ring dx)
    have hdx2 := s2 _ _ hdx
    have hL2 := s2 _ _ hL
    generalize upd H1 a (excR a T.k_Ring dx) = H2 at s2 hx hdx2 hL2 ⊢
    refine ⟨_, rfl, a, T.k_Ring, T.qinit, dx, _, .ref L, rfl, rfl, X.r_Ring, hx, hdx2, rfl, ?_⟩
    dsimp only [gName]
    refine ⟨_, rfl, a, T.k_Ring, T.qinit, dx, _, _, rfl, hx, X.r_Ring, .inl ⟨_, rfl, X.i_Ring_1⟩, _, rfl, iteT ?_⟩
    refine ⟨_, rfl, a, T.k_Ring, T.qinit, dx, _, _, rfl, hx, X.r_Ring, .inr (.inl ⟨_, rfl, X.i_Ring_2⟩), ?_⟩
    dsimp only [gName]
    refine ⟨_, rfl, (by show 9 <= sizeLine; decide), fun p hp => ?_⟩
    have s3 := same_new hp (.tup [.ref T.k_NoText, .ref T.k_TooGreat, .ref T.k_NoName, .ref T.k_NoRule, .ref T.k_NoKind, .ref T.k_NoTree, .ref T.k_NoPlace, .ref T.k_NoGiven, .ref T.k_NoWalk])
    refine ⟨a, T.k_Ring, T.qinit, dx, _, _, rfl, s3 _ _ hx, X.r_Ring, .inr (.inr ⟨p, [T.k_NoText, T.k_TooGreat, T.k_NoName, T.k_NoRule, T.k_NoKind, T.k_NoTree, T.k_NoPlace, T.k_NoGiven, T.k_NoWalk], rfl, upd_same, X.i_Ring_0⟩), _, rfl, iteF ?_⟩
    refine ⟨_, rfl, _, rfl, _, rfl, (by show 3 <= sizeLine; decide), fun t ht => ?_⟩
    have s4 := same_new ht (.lst [.ref L, .non, .bl true])
    exact q t L r _ (((s1.trans s2).trans s3).trans s4) upd_same (s4 _ _ (s3 _ _ hL2)) rg rs
end
end K31
namespace K31
open PySem L2
open WK (DS put put_same put_ne left left_done left_on left_new RingP Nr)
def spIsOrder (P : Program) (w : World) : Sp := fun as H Q _ => ∃ (r g : Addr) (κ : V -> NK) (vs z : List V) (l : V -> Addr) (E : V -> List V), as = [.ref r, .ref g] /\ Nd H κ vs /\ Gr P w κ H g vs l E /\ H r = some (.lst z) /\ vs.length <= 50 /\ Ord E vs z /\ ∀ H', Same H H' -> Q (.bl true) H'
def spIsRing (P : Program) (w : World) : Sp := fun as H Q _ => ∃ (r g : Addr) (κ : V -> NK) (vs z : List V) (l : V -> Addr) (E : V -> List V), as = [.ref r, .ref g] /\ Nd H κ vs /\ Gr P w κ H g vs l E /\ H r = some (.lst z) /\ vs.length <= 50 /\ RingP E z /\ (∀ x ∈ z, x ∈ vs) /\ ∀ H', Same H H' -> Q (.bl true) H'
def seenR (z : List V) (last : V) : Nat -> List V
  | 0 => []
  | k + 1 => last :: z.take k
theorem seenR_sub {z : List V} {last : V} (hl : last ∈ z) : ∀ k, ∀ x ∈ seenR z last k, x ∈ z
  | 0, x, h => nomatch h
  | k + 1, x, h => by
    rcases List.mem_cons.mp h with rfl | h
    · exact hl
    · exact List.mem_of_mem_take h
section
variable {P : Program} {w : World} {K : PySem.W.Frag} {mg : Str -> Option Value} {base : Heap} {T : Adr}
theorem ok_isorder (X : Tx K mg T) : FnOk P w K mg base CX0 4 T.qisorder T.d_qisorder ["_law_found", "_law_graph_here"] (spIsOrder P w) := by
  have G_qplain := ok_plain (P := P) (w := w) (base := base) X 2
  refine X.F_qisorder.okQ sc_qisorder (fun vs H Q E h => ?_) (fun cdv A outer s H vs Q E hr h => ?_)
  · obtain ⟨_, _, _, _, _, _, _, rfl, _⟩ := h
    rfl
  obtain ⟨r, g, κ, vs, z, l, G, rfl, nd, gr, hr', l50, od, q⟩ := h
  refine ⟨_, (qss_cons (qs_if (qw_pt (qw_or (qt_not (qt_val (qe_callB call_isinst rfl X.z_isinstance PyProof.Rows.boot_isinstance (qaN (qv 0) (qaN (qe_bltn rfl X.z_list PyProof.Rows.boot_list rfl (v := .ty "list")) qa_nil))))) (qw_or1 (qt_cmpR op_ne (qe_callB call_len_seq rfl X.z_len PySem.boot_len (qaN (qv 0) qa_nil)) (qe_callB call_lenN rfl X.z_len PySem.boot_len (qaN (qv 1) qa_nil)) (nomark _))))) (qss_one (qs_ret qe_bl)) qss_nil) (qss_cons (qs_set (i := 2) sc_qisorder.nd rfl (Or.inl rfl) qe_dnewN) (qss_cons (qs_for PassesOwn.never rfl (qi_list (qv 0)) (qg_name (i := 3) sc_qisorder.nd rfl (Or.inl rfl)) (qss_cons (qs_if (qw_pt (qw_or (qt_not (qt_val (qe_call G_qplain hr rfl X.m_qplain X.F_qplain.kp X.b_qplain .nil pass0 (qaN (qv 3) qa_nil)))) (qw_or (qt_cmpR (op_notInN hr.un80) (qv 3) (qv 1) rfl) (qw_or1 (qt_cmpR (op_inN hr.un80) (qv 3) (qv 2) rfl))))) (qss_one (qs_ret qe_bl)) qss_nil) (qss_cons (qs_for PassesOwn.never rfl (qi_list (qe_dgetN hr.un80 (qv 1) (qv 3))) (qg_name (i := 4) sc_qisorder.nd rfl (Or.inl rfl)) (qss_one (qs_if (qt_cmpR (op_notInN hr.un80) (qv 4) (qv 2) rfl) (qss_one (qs_ret qe_bl)) qss_nil))) (qss_one (qs_dputN hr.un80 (qv 2) (qv 3) qe_bl))))) (qss_one (qs_ret qe_bl))))), ?_⟩
  have vn := DN.nodupV gr.d
  have lz : z.length = vs.length := Nat.le_antisymm (nd_subV od.nd od.sub) (nd_subV vn od.all)
  refine ⟨_, rfl, _, "list", _, _, rfl, .lst hr', k_ll, _, rfl, iteF ⟨_, rfl, r, _, rfl, .inl (SqL.of hr'), _, rfl, g, _, rfl, gr.d, rfl, _, rfl, ?_⟩⟩
  dsimp only
  rw [dI, List.length_map, lz]
  refine iteND (fun h => absurd rfl h) (fun _ => ?_)
  intro f o hf ob
  have s0 := same_new hf (pinO f o)
  have F0 : DV P w κ (upd H f (pinO f o)) f [] (fun _ => V.non) := DN.new (H := H) ob
  generalize upd H f (pinO f o) = H0 at s0 F0 ⊢
  dsimp only [gName]
  refine ⟨_, rfl, r, rfl, ⟨_, SqL.of (s0 _ _ hr')⟩, ?_⟩
  refine for_list (xs := z) (fun i σ H' => Same H H' /\ ∃ (x3 x4 : Option V) (t : V -> V), σ = [some (.ref r), some (.ref g), some (.ref f), x3, x4] /\ DV P w κ H' f (z.take i) t) ⟨s0, none, none, _, rfl, by rw [List.take_zero]; exact F0⟩ (fun i σ H' _ ⟨sm, _⟩ => SqL.of (sm _ _ hr')) ?_ ?_
  · rintro i x σ H1 hx ⟨sm, x3, x4, t, rfl, FF⟩
    have xm := od.sub x (List.mem_of_getElem? hx)
    have nd1 := nd.same sm
    have gr1 := gr.same sm
    have sub : ∀ k ∈ z.take i, k ∈ vs := fun k hk => od.sub k (List.mem_of_mem_take hk)
    have tk : z.take (i + 1) = z.take i ++ [x] := take_snocA hx
    have hnew : x ∉ z.take i := fun zz => by
      have : (z.take (i + 1)).Nodup := od.nd.sublist (List.take_sublist _ _)
      rw [tk] at this
      exact (List.nodup_append.mp this).2.2 x zz x (List.mem_singleton.mpr rfl) rfl
    refine ⟨_, rfl, _, rfl, pl_N (nd1.key x xm), _, rfl, iteF ⟨_, rfl, _, rfl, g, _, κ x, rfl, gr1.d, nd1.key x xm, _, rfl, ?_⟩⟩
    rw [nd1.has (fun _ h => h) xm]
    refine iteND (fun h => absurd xm h) (fun _ => ?_)
    refine ⟨_, rfl, _, rfl, f, _, κ x, rfl, FF, nd1.key x xm, _, rfl, ?_⟩
    rw [nd1.has sub xm]
    refine iteD (fun h => absurd h hnew) (fun _ => ?_)
    have hE := gr1.at_ x xm
    refine ⟨_, rfl, _, rfl, g, _, κ x, _, rfl, gr1.d, nd1.key x xm, nd1.val (fun _ h => h) xm, l x, rfl, ⟨_, SqL.of hE⟩, ?_⟩
    refine for_list (xs := G x) (fun j σ H' => H' = H1 /\ ∃ (x4 : Option V), σ = [some (.ref r), some (.ref g), some (.ref f), some x, x4]) ⟨rfl, _, rfl⟩ (fun j σ H' _ ⟨e, _⟩ => by rw [e]; exact SqL.of hE) ?_ ?_
    · rintro j y σ H' hy ⟨e, x4, rfl⟩
      rw [e]
      have yE := List.mem_of_getElem? hy
      have ym := gr1.sub x xm y yE
      have yz := od.ord i x hx y yE
      refine ⟨_, rfl, _, rfl, f, _, κ y, rfl, FF, nd1.key y ym, _, rfl, ?_⟩
      rw [nd1.has sub ym]
      exact iteND (fun h => absurd yz h) (fun _ => ⟨rfl, _, rfl⟩)
    · rintro σ H' ⟨e, x4, rfl⟩
      rw [e]
      refine ⟨_, rfl, _, rfl, f, _, κ x, rfl, FF, nd1.key x xm, by rw [List.length_map, List.length_take]; exact Nat.lt_of_le_of_lt (show min i z.length <= 1000 by omega) (by decide), fun o' ob' => ?_⟩
      have FF2 := DN.put FF (nd1.key x xm) ob'
      rw [nd1.new sub xm hnew, <- tk] at FF2
      exact ⟨same_upd hf sm, _, _, _, rfl, FF2⟩
  · rintro σ H1 ⟨sm, x3, x4, t, rfl, FF⟩
    exact q H1 sm
theorem ok_isring (X : Tx K mg T) : FnOk P w K mg base CX0 4 T.qisring T.d_qisring ["_law_found", "_law_graph_here"] (spIsRing P w) := by
  have G_qplain := ok_plain (P := P) (w := w) (base := base) X 2
  refine X.F_qisring.okQ sc_qisring (fun vs H Q E h => ?_) (fun cdv A outer s H vs Q E hr h => ?_)
  · obtain ⟨_, _, _, _, _, _, _, rfl, _⟩ := h
    rfl
  obtain ⟨r, g, κ, vs, z, l, G, rfl, nd, gr, hr', l50, rg, zs, q⟩ := h
  refine ⟨_, (qss_cons (qs_if (qw_pt (qw_or (qt_not (qt_val (qe_callB call_isinst rfl X.z_isinstance PyProof.Rows.boot_isinstance (qaN (qv 0) (qaN (qe_bltn rfl X.z_list PyProof.Rows.boot_list rfl (v := .ty "list")) qa_nil))))) (qw_or1 (qt_cmpR (op_eqNil hr.units) (qv 0) (qe_lst qa_nil) (nomark _))))) (qss_one (qs_ret qe_bl)) qss_nil) (qss_cons (qs_set (i := 2) sc_qisring.nd rfl (Or.inl rfl) qe_dnewN) (qss_cons (qs_for PassesOwn.never rfl (qi_range1 rfl X.z_range (qaK (qe_callB call_len_seq rfl X.z_len PySem.boot_len (qaN (qv 0) qa_nil)) qa_nil)) (qg_name (i := 3) sc_qisring.nd rfl (Or.inl rfl)) (qss_cons (qs_set (i := 4) sc_qisring.nd rfl (Or.inl rfl) (qe_ix ix_list (qv 0) (qe_op op_sub (qv 3) qe_int) (fun _ _ => rfl))) (qss_cons (qs_if (qw_pt (qw_or (qt_not (qt_val (qe_call G_qplain hr rfl X.m_qplain X.F_qplain.kp X.b_qplain .nil pass0 (qaN (qv 4) qa_nil)))) (qw_or (qt_not (qt_val (qe_call G_qplain hr rfl X.m_qplain X.F_qplain.kp X.b_qplain .nil pass0 (qaS (qe_ix ix_list (qv 0) (qv 3) (fun _ _ => rfl)) qa_nil)))) (qw_or (qt_cmpR (op_notInN hr.un80) (qv 4) (qv 1) rfl) (qw_or1 (qt_cmpR (op_inN hr.un80) (qv 4) (qv 2) rfl)))))) (qss_one (qs_ret qe_bl)) qss_nil) (qss_cons (qs_if (qt_cmpR (op_notInD hr.units) (qe_ix ix_list (qv 0) (qv 3) (fun _ _ => rfl)) (qe_dgetN hr.un80 (qv 1) (qv 4)) rfl) (qss_one (qs_ret qe_bl)) qss_nil) (qss_one (qs_dputN hr.un80 (qv 2) (qv 4) qe_bl)))))) (qss_one (qs_ret qe_bl))))), ?_⟩
  have lz : z.length <= vs.length := nd_subV rg.nd zs
  have zpos : 0 < z.length := List.length_pos_iff.mpr rg.ne
  refine ⟨_, rfl, _, "list", _, _, rfl, .lst hr', k_ll, _, rfl, iteF ⟨_, rfl, (by show 0 <= sizeLine; decide), fun e0 he0 => ?_⟩⟩
  have s00 := same_new he0 (.lst [])
  refine ⟨r, e0, _, rfl, rfl, SqL.of (s00 _ _ hr'), SqL.of upd_same, _, rfl, ?_⟩
  refine iteN (by cases z with | nil => exact absurd rfl rg.ne | cons a b => rfl) ?_
  generalize upd H e0 (.lst []) = Ha at s00 ⊢
  intro f o hf ob
  have s01 := same_new hf (pinO f o)
  have F0 : DV P w κ (upd Ha f (pinO f o)) f [] (fun _ => V.non) := DN.new (H := Ha) ob
  have hf0 := s00.free hf
  generalize upd Ha f (pinO f o) = H0 at s01 F0 ⊢
  have s0 := s00.trans s01
  dsimp only [gName]
  obtain ⟨last, hlast⟩ : ∃ x, z.getLast? = some x := by
    cases h : z.getLast? with
    | none => exact absurd (List.getLast?_eq_none_iff.mp h) rg.ne
    | some b => exact ⟨b, rfl⟩
  have lastm : last ∈ z := List.mem_of_getLast? hlast
  have lastat : z[z.length - 1]? = some last := by rw [<- List.getLast?_eq_getElem?]; exact hlast
  refine ⟨_, rfl, r, _, rfl, .inl (SqL.of (s0 _ _ hr')), _, rfl, by omega, by omega, ?_⟩
  refine for_range (n := ((z.length : Nat) : Int).toNat) (fun i σ H' => Same H H' /\ ∃ (x3 x4 : Option V) (t : V -> V), σ = [some (.ref r), some (.ref g), some (.ref f), x3, x4] /\ DV P w κ H' f (seenR z last i) t) ⟨s0, none, none, _, rfl, F0⟩ ?_ ?_
  · rintro i σ H1 hi ⟨sm, x3, x4, t, rfl, FF⟩
    have hi2 : i < z.length := by omega
    obtain ⟨x, hx⟩ := some_of_lt hi2
    have nd1 := nd.same sm
    have gr1 := gr.same sm
    have hr1 := sm _ _ hr'
    obtain ⟨u, hu, um, uE, unew, utk⟩ : ∃ u, atI z (0 + (i : Int) - 1) = some u /\ u ∈ z /\ x ∈ G u /\ u ∉ seenR z last i /\ seenR z last (i + 1) = seenR z last i ++ [u] := by
      cases i with
      | zero =>
        refine ⟨last, ?_, lastm, rg.cl x last (by rw [List.head?_eq_getElem?]; exact hx) hlast, (fun h => nomatch h), rfl⟩
        obtain ⟨tt, y, rfl⟩ := snoc_of rg.ne
        have : y = last := by simpa using hlast
        subst this
        exact atI_lastV tt y
      | succ j =>
        obtain ⟨u, hu⟩ := some_of_lt (xs := z) (i := j) (by omega)
        refine ⟨u, by rw [show 0 + ((j + 1 : Nat) : Int) - 1 = ((j : Nat) : Int) by omega]; exact atI_nat hu, List.mem_of_getElem? hu, rg.st j u x hu hx, fun h => ?_, ?_⟩
        · rcases List.mem_cons.mp h with h | h
          · subst h
            have := (List.getElem?_inj (lt_of_some hu) rg.nd).mp (hu.trans lastat.symm)
            omega
          · have : (z.take (j + 1)).Nodup := rg.nd.sublist (List.take_sublist _ _)
            rw [take_snocA hu] at this
            exact (List.nodup_append.mp this).2.2 u h u (List.mem_singleton.mpr rfl) rfl
        · show last :: z.take (j + 1) = (last :: z.take j) ++ [u]
          rw [take_snocA hu]
          rfl
    have uv := zs u um
    have xv := zs x (List.mem_of_getElem? hx)
    have hx' : atI z (0 + (i : Int)) = some x := by rw [Int.zero_add]; exact atI_nat hx
    have sub : ∀ k ∈ seenR z last i, k ∈ vs := fun k hk => zs k (seenR_sub lastm i k hk)
    refine ⟨_, rfl, _, rfl, _, _, rfl, rfl, r, _, _, u, rfl, rfl, SqL.of hr1, hu, ?_⟩
    dsimp only [gName]
    refine ⟨_, rfl, _, rfl, pl_N (nd1.key u uv), _, rfl, iteF ⟨_, rfl, _, rfl, r, _, _, x, rfl, rfl, SqL.of hr1, hx', _, rfl, pl_N (nd1.key x xv), _, rfl, iteF ⟨_, rfl, _, rfl, g, _, κ u, rfl, gr1.d, nd1.key u uv, _, rfl, ?_⟩⟩⟩
    rw [nd1.has (fun _ h => h) uv]
    refine iteND (fun h => absurd uv h) (fun _ => ?_)
    refine ⟨_, rfl, _, rfl, f, _, κ u, rfl, FF, nd1.key u uv, _, rfl, ?_⟩
    rw [nd1.has sub uv]
    refine iteD (fun h => absurd h unew) (fun _ => ?_)
    refine ⟨_, rfl, _, rfl, r, _, _, x, rfl, rfl, SqL.of hr1, hx', _, rfl, _, rfl, g, _, κ u, _, rfl, gr1.d, nd1.key u uv, nd1.val (fun _ h => h) uv, l u, _, daN (κ x), _, rfl, SqL.of (gr1.at_ u uv), nd1.isd xv, nd1.isds (gr1.sub u uv), Nat.le_trans (dep_Ns _) (by decide), _, rfl, ?_⟩
    rw [nd1.any xv (gr1.sub u uv)]
    refine iteND (fun h => absurd uE h) (fun _ => ?_)
    have lsn : (seenR z last i).length <= 1000 := by
      cases i with
      | zero => exact Nat.zero_le _
      | succ j =>
        show (z.take j).length + 1 <= 1000
        rw [List.length_take]
        omega
    refine ⟨_, rfl, _, rfl, f, _, κ u, rfl, FF, nd1.key u uv, by rw [List.length_map]; exact Nat.lt_of_le_of_lt lsn (by decide), fun o' ob' => ?_⟩
    have FF2 := DN.put FF (nd1.key u uv) ob'
    rw [nd1.new sub uv unew, <- utk] at FF2
    exact ⟨same_upd hf0 sm, _, _, _, rfl, FF2⟩
  · rintro σ H1 ⟨sm, x3, x4, t, rfl, FF⟩
    exact q H1 sm
end
end K31
namespace K31
open PySem L2
open WK (RingP Nr)
def spLaw (K : PySem.W.Frag) : Sp := fun vs H Q _ => ∃ (a : Addr) (ns : List Int), vs = [.ref a] /\ SqL K H a (ns.map V.int) /\ ns.length <= 63 /\ ∀ H', Q (.bl true) H'
def Rg (H : Hp) (E : V -> List V) (vs : List V) (L : Addr) : Prop := ∃ r, H L = some (.lst r) /\ RingP E r /\ ∀ x ∈ r, x ∈ vs
theorem Rg.same {H H' : Hp} {E : V -> List V} {vs : List V} {L : Addr} (s : Same H H') : Rg H E vs L -> Rg H' E vs L := fun ⟨r, a, b, c⟩ => ⟨r, s _ _ a, b, c⟩
def RIn (H : Hp) (E : V -> List V) (vs : List V) (x : V) : Prop := (x = .non /\ Acy E vs) \/ ∃ L, x = .ref L /\ Rg H E vs L
def OIn (H : Hp) (E : V -> List V) (vs : List V) (t : Addr) : Prop := (Acy E vs /\ ∃ r z, H t = some (.lst [.non, .ref r, .bl true]) /\ H r = some (.lst z) /\ Ord E vs z) \/ ∃ L, H t = some (.lst [.ref L, .non, .bl true]) /\ Rg H E vs L
theorem RIn.same {H H' : Hp} {E : V -> List V} {vs : List V} {x : V} (s : Same H H') : RIn H E vs x -> RIn H' E vs x
  | .inl h => .inl h
  | .inr ⟨L, a, b⟩ => .inr ⟨L, a, b.same s⟩
theorem OIn.same {H H' : Hp} {E : V -> List V} {vs : List V} {t : Addr} (s : Same H H') : OIn H E vs t -> OIn H' E vs t
  | .inl ⟨h, r, z, a, b, c⟩ => .inl ⟨h, r, z, s _ _ a, s _ _ b, c⟩
  | .inr ⟨L, a, b⟩ => .inr ⟨L, s _ _ a, b.same s⟩
theorem nd_nil {H : Hp} : Nd H (fun _ => .inl (.inl 0)) [] := ⟨(fun v hv => nomatch hv), (fun v hv => nomatch hv)⟩
theorem gr_nil {P : Program} {w : World} {H : Hp} {g : Addr} {o : Obj} (ob : ObN P w g [] o) : Gr P w (fun _ => .inl (.inl 0)) (upd H g (pinO g o)) g [] (fun _ => 0) (fun _ => []) := ⟨DN.new (H := H) ob, (fun v hv => nomatch hv), (fun v hv => nomatch hv), (fun v hv => nomatch hv)⟩
theorem no_ring_nil {E : V -> List V} {r : List V} (g : RingP E r) (h : ∀ x ∈ r, x ∈ ([] : List V)) : False := g.ne (List.eq_nil_iff_forall_not_mem.mpr fun x hx => nomatch h x hx)
section
variable {P : Program} {w : World} {K : PySem.W.Frag} {mg : Str -> Option Value} {base : Heap} {T : Adr}
theorem ok_law (X : Tx K mg T) : FnOk P w K mg base CX0 140 T.law T.d_law ["_law_script"] (spLaw K) := by
  have G_qinit := (ok_init (P := P) (w := w) (base := base) X).mono (show 1 <= 138 by decide)
  have G_qgraph := (ok_graph (P := P) (w := w) (base := base) X).mono (show 2 <= 139 by decide)
  have G_qcopy := (ok_copy (P := P) (w := w) (base := base) X).mono (show 1 <= 139 by decide)
  have G_qorderof := (ok_order (P := P) (w := w) (base := base) X).mono (show 4 <= 139 by decide)
  have G_qringin := (ok_ringin (P := P) (w := w) (base := base) X).mono (show 5 <= 139 by decide)
  have G_qordered := (ok_ordered (P := P) (w := w) (base := base) X).mono (show 5 <= 139 by decide)
  have G_qisorder := (ok_isorder (P := P) (w := w) (base := base) X).mono (show 4 <= 139 by decide)
  have G_qisring := (ok_isring (P := P) (w := w) (base := base) X).mono (show 4 <= 139 by decide)
  refine X.F_law.okQ sc_law (fun vs H Q E h => ?_) (fun cdv A outer s H vs Q E hr h => ?_)
  · obtain ⟨_, _, rfl, _⟩ := h
    rfl
  obtain ⟨a, ns, rfl, hS, h63, q⟩ := h
  refine ⟨_, (qss_cons (qs_setC (ys := []) (js := []) rfl rfl (qi_list (qe_slice sl_list (qv 0) qo_none (qo_some qe_int))) (fun _ _ _ _ _ => qif_nil) (fun _ _ _ _ _ => (qe_op op_mod (qv 0) (qe_op op_pow qe_int qe_int))) (qg_name (i := 1) sc_law.nd rfl (Or.inl rfl)) rfl) (qss_cons (qs_if (qw_pt (qw_or (qt_cmpR (op_neD hr.units) (qe_ringP (qe_newI G_qinit hr X.r_Ring X.b_qinit rfl rfl X.m_Ring (qaK (qe_callTy call_list_of rfl X.z_list PyProof.Rows.boot_list (qaN (qv 1) qa_nil)) qa_nil))) (qv 1) (nomark _)) (qw_or (qt_notN (qe_call G_qringin hr rfl X.m_qringin X.F_qringin.kp X.b_qringin .nil pass0 (qaD qe_dnewN qa_nil))) (qw_or1 (qt_cmpR (op_neNil hr.units) (qe_call G_qorderof hr rfl X.m_qorderof X.F_qorderof.kp X.b_qorderof .nil passR0 (qaD qe_dnewN qa_nil)) (qe_lst qa_nil) (nomark _)))))) (qss_one (qs_ret qe_bl)) qss_nil) (qss_cons (qs_set (i := 2) sc_law.nd rfl (Or.inl rfl) (qe_call G_qgraph hr rfl X.m_qgraph X.F_qgraph.kp X.b_qgraph .nil pass0 (qaN (qv 1) (qaC qe_int qa_nil)))) (qss_cons (qs_set (i := 3) sc_law.nd rfl (Or.inl rfl) (qe_call G_qcopy hr rfl X.m_qcopy X.F_qcopy.kp X.b_qcopy .nil pass0 (qaN (qv 2) qa_nil))) (qss_cons (qs_if (qt_cmpR op_eq (qe_op op_mod (qe_callB (call_sum rfl) rfl X.z_sum PyProof.Rows.boot_sum (qaN (qv 1) qa_nil)) qe_int) qe_int (nomark _)) (qss_cons (qs_set (i := 4) sc_law.nd rfl (Or.inl rfl) (qe_call G_qringin hr rfl X.m_qringin X.F_qringin.kp X.b_qringin .nil pass0 (qaN (qv 3) qa_nil))) (qss_one (qs_set (i := 5) sc_law.nd rfl (Or.inl rfl) (qe_call G_qordered hr rfl X.m_qordered X.F_qordered.kp X.b_qordered .nil pass0 (qaN (qv 3) qa_nil))))) (qss_cons (qs_set (i := 5) sc_law.nd rfl (Or.inl rfl) (qe_call G_qordered hr rfl X.m_qordered X.F_qordered.kp X.b_qordered .nil pass0 (qaN (qv 3) qa_nil))) (qss_one (qs_set (i := 4) sc_law.nd rfl (Or.inl rfl) (qe_call G_qringin hr rfl X.m_qringin X.F_qringin.kp X.b_qringin .nil pass0 (qaN (qv 3) qa_nil)))))) (qss_cons (qs_if (qw_pt (qw_or (qt_cmpR (op_neN hr.un80) (qv 3) (qv 2) (nomark _)) (qw_or (qt_cmpR (op_neD hr.units) (qe_listN rfl rfl X.z_list (qv 3)) (qe_listN rfl rfl X.z_list (qv 2)) (nomark _)) (qw_or1 (qt_not (qt_val (qe_ix ix_list (qv 5) qe_int (fun _ _ => rfl)))))))) (qss_one (qs_ret qe_bl)) qss_nil) (qss_cons (qs_if (qt_isN (qv 4)) (qss_one (qs_ret (qe_and (qe_cmpR op_isN (qe_ix ix_list (qv 5) qe_int (fun _ _ => rfl)) qe_non (nomark _)) (qe_one (qe_call G_qisorder hr rfl X.m_qisorder X.F_qisorder.kp X.b_qisorder .nil pass0 (qaS (qe_ix ix_list (qv 5) qe_int (fun _ _ => rfl)) (qaN (qv 2) qa_nil))))))) qss_nil) (qss_one (qs_ret (qe_and (qe_cmpR op_notN (qe_ix ix_list (qv 5) qe_int (fun _ _ => rfl)) qe_non (nomark _)) (qe_and (qe_call G_qisring hr rfl X.m_qisring X.F_qisring.kp X.b_qisring .nil pass0 (qaN (qv 4) (qaN (qv 2) qa_nil))) (qe_one (qe_call G_qisring hr rfl X.m_qisring X.F_qisring.kp X.b_qisring .nil pass0 (qaS (qe_ix ix_list (qv 5) qe_int (fun _ _ => rfl)) (qaN (qv 2) qa_nil))))))))))))))), ?_⟩
  refine ⟨_, rfl, _, rfl, a, _, rfl, hS, fun p hp => ?_⟩
  rw [show cutV (ns.map V.int) none (some 63) = ns.map V.int by
    have := cut_take' (ns.map V.int) 63
    rw [List.take_of_length_le (by rw [List.length_map]; exact h63)] at this
    exact this]
  refine ⟨p, rfl, ⟨_, SqL.of upd_same⟩, fun D hD => ?_⟩
  have big : (10 ^ Int.toNat 18 : Int) = 1000000000000000000 := by decide
  refine comp_lstM (K := K) (xs := ns.map V.int) (ys := (ns.map fun n => n % 1000000000000000000).map V.int) (fitsL (by rw [List.length_map]; omega)) (by simp) (SqL.of upd_same) hD (fun i x y J hx hy sJ Q' k => ?_) fun H1 s1 hD1 => ?_
  · rw [List.getElem?_map] at hx
    rw [List.getElem?_map, List.getElem?_map] at hy
    cases e : ns[i]? with
    | none => rw [e] at hx; cases hx
    | some n =>
      rw [e] at hx hy
      cases hx
      cases hy
      exact ⟨_, rfl, _, _, rfl, rfl, ⟨by decide, by decide, by decide⟩, _, _, rfl, rfl, (by show (0 : Int) < 10 ^ Int.toNat 18; decide), by rw [big]; exact k _ (Same.refl _)⟩
  have hcs : ∀ c ∈ (ns.map fun n => n % 1000000000000000000), 0 <= c /\ c < 1000000000000000000 := fun c hc => by
    obtain ⟨n, _, rfl⟩ := List.mem_map.mp hc
    omega
  have lcs : (ns.map fun n => n % 1000000000000000000).length <= 63 := by rw [List.length_map]; exact h63
  generalize (ns.map fun n => n % 1000000000000000000) = cs at hcs lcs hD1
  clear s1 hD
  dsimp only [gName]
  refine ⟨_, rfl, D, _, rfl, .inl (SqL.of hD1), fun B hB => ?_⟩
  have s2 := same_new hB (.lst (cs.map V.int))
  have hB2 := upd_same (H := H1) (a := B) (o := .lst (cs.map V.int))
  have hD2 := s2 _ _ hD1
  generalize upd H1 B (.lst (cs.map V.int)) = H2 at hB2 hD2 ⊢
  refine ⟨B, _, rfl, hB2, fun x L dx tt hx hL hdx nLd nLx ndx => ?_⟩
  have t1 := same_new hx (pinO x (newExc T.k_Ring tt))
  have t2 : Same H2 (upd (upd H2 x (pinO x (newExc T.k_Ring tt))) L (.lst (cs.map V.int))) := same_upd hL t1
  have t3 : Same H2 (upd (upd (upd H2 x (pinO x (newExc T.k_Ring tt))) L (.lst (cs.map V.int))) x (pinO x (rgO T.k_Ring dx tt #[]))) := same_upd hx t2
  have t4 : Same H2 (upd (upd (upd (upd H2 x (pinO x (newExc T.k_Ring tt))) L (.lst (cs.map V.int))) x (pinO x (rgO T.k_Ring dx tt #[]))) dx (.xd [("ring", .ref L)])) := same_upd hdx t3
  have gx : (upd (upd (upd (upd H2 x (pinO x (newExc T.k_Ring tt))) L (.lst (cs.map V.int))) x (pinO x (rgO T.k_Ring dx tt #[]))) dx (.xd [("ring", .ref L)])) x = some (pinO x (rgO T.k_Ring dx tt #[])) := by rw [upd_ne (Ne.symm ndx), upd_same]
  have gL : (upd (upd (upd (upd H2 x (pinO x (newExc T.k_Ring tt))) L (.lst (cs.map V.int))) x (pinO x (rgO T.k_Ring dx tt #[]))) dx (.xd [("ring", .ref L)])) L = some (.lst (cs.map V.int)) := by rw [upd_ne nLd, upd_ne nLx, upd_same]
  have gd : (upd (upd (upd (upd H2 x (pinO x (newExc T.k_Ring tt))) L (.lst (cs.map V.int))) x (pinO x (rgO T.k_Ring dx tt #[]))) dx (.xd [("ring", .ref L)])) dx = some (.xd [("ring", .ref L)]) := upd_same
  have hD3 := t4 _ _ hD2
  generalize (upd (upd (upd (upd H2 x (pinO x (newExc T.k_Ring tt))) L (.lst (cs.map V.int))) x (pinO x (rgO T.k_Ring dx tt #[]))) dx (.xd [("ring", .ref L)])) = H3 at gx gL gd hD3 ⊢
  clear t1 t2 t3 t4 hD2 hB2 s2 hD1 hB hx hL hdx
  have ek : (cs.map Sum.inl : List Key).map kV = cs.map V.int := by rw [List.map_map]; rfl
  have is3 : Isds K H3 ((cs.map Sum.inl : List Key).map daK) (cs.map V.int) := by rw [<- ek]; exact isds_K _
  refine ⟨x, T.k_Ring, T.qinit, dx, _, .ref L, rfl, rfl, X.r_Ring, ⟨tt, #[], gx⟩, gd, rfl, _, rfl, L, D, _, _, _, _, rfl, rfl, .inr ⟨SqL.of gL, SqL.of hD3⟩, is3, is3, by rw [dep_K]; decide, _, rfl, ?_⟩
  rw [eqDs_K, decide_eq_true rfl]
  refine iteF ?_
  intro g1 o1 hg1 ob1
  have u1 := same_new hg1 (pinO g1 o1)
  refine ⟨g1, _, [], _, _, rfl, nd_nil, gr_nil ob1, by decide, fun H4 s4 _ => ?_, fun L r H4 s4 hL rg rs => (no_ring_nil rg rs).elim⟩
  refine ⟨_, rfl, iteN (by simp) ?_⟩
  have hD4 := s4 _ _ (u1 _ _ hD3)
  clear u1 s4 hD3 gx gL gd ob1
  intro g2 o2 hg2 ob2
  have u2 := same_new hg2 (pinO g2 o2)
  refine ⟨g2, _, [], _, _, rfl, nd_nil, gr_nil ob2, by decide, fun r z H5 s5 hr5 hrz od _ => ?_, fun dx L r H5 s5 _ hL rg rs => (no_ring_nil rg rs).elim⟩
  have hD5 := s5 _ _ (u2 _ _ hD4)
  clear u2 s5 hD4 ob2
  have ez : z = [] := List.eq_nil_iff_forall_not_mem.mpr fun x hx => nomatch od.sub x hx
  subst ez
  refine ⟨(by show 0 <= sizeLine; decide), fun e0 he0 => ?_⟩
  have s6 := same_new he0 (.lst [])
  refine ⟨r, e0, _, rfl, rfl, SqL.of (s6 _ _ hrz), SqL.of upd_same, _, rfl, ?_⟩
  refine iteND (fun h => absurd rfl h) (fun _ => ?_)
  have hD6 := s6 _ _ hD5
  generalize upd H5 e0 (.lst []) = H6 at hD6 ⊢
  clear s6 hD5 hrz hr5 he0
  refine ⟨_, rfl, D, cs, rfl, hD6, lcs, hcs, fun g κ vs l E H7 s7 hg nd gr v1 v40 => ?_⟩
  dsimp only [gName]
  refine ⟨_, rfl, g, κ, vs, l, E, rfl, nd, gr, by omega, fun f l' H8 s8 hf gh => ?_⟩
  dsimp only [gName]
  have hD8 := s8 _ _ (s7 _ _ hD6)
  have nd8 := nd.same s8
  have gr8 := gr.same s8
  clear nd gr s7 s8 hg hf hD6
  refine seq_join (fun σ' H' => ∃ (x : V) (t : Addr), σ' = [some (.ref a), some (.ref D), some (.ref g), some (.ref f), some x, some (.ref t)] /\ Same H8 H' /\ RIn H' E vs x /\ OIn H' E vs t) ?_ (fun F hF => ?_)
  · rintro σ' H9 ⟨x, t, rfl, s9, ri, oi⟩
    have nd9 := nd8.same s9
    have gr9 := gr8.same s9
    have gh9 := gh.same s9
    refine ⟨_, rfl, _, rfl, f, g, _, _, rfl, rfl, gh9.d, gr9.d, ⟨by rw [List.length_map, List.length_map], fun y hy => ?_⟩, _, rfl, iteF ?_⟩
    · obtain ⟨v, hv, rfl⟩ := List.mem_map.mp hy
      refine ⟨.ref (l v), .lst ((E v).map fun u => daN (κ u)), nd9.val (fun _ h => h) hv, ?_, ?_, ?_⟩
      · show Isd K H9 (.lst _) (.ref (l' v))
        unfold Isd
        exact ⟨_, _, rfl, SqL.of (gh9.at_ v hv), nd9.isds (gr9.sub v hv)⟩
      · show Isd K H9 (.lst _) (.ref (l v))
        unfold Isd
        exact ⟨_, _, rfl, SqL.of (gr9.at_ v hv), nd9.isds (gr9.sub v hv)⟩
      · have := dep_Ns (κ := κ) (E v)
        unfold depD
        omega
    refine ⟨_, rfl, f, _, rfl, gh9.d, fun R1 hR1 => ?_⟩
    rw [row_vals]
    have sa := same_new hR1 (.lst vs)
    have hR1v := upd_same (H := H9) (a := R1) (o := .lst vs)
    generalize upd H9 R1 (.lst vs) = Ha at sa hR1v ⊢
    refine ⟨_, rfl, g, _, rfl, gr9.d.same sa, fun R2 hR2 => ?_⟩
    rw [row_vals]
    have sb := same_new hR2 (.lst vs)
    have hR2v := upd_same (H := Ha) (a := R2) (o := .lst vs)
    have sab := sa.trans sb
    have hR1w := sb _ _ hR1v
    generalize upd Ha R2 (.lst vs) = Hb at sb hR2v sab hR1w ⊢
    have ndb := nd9.same sab
    have grb := gr9.same sab
    have rib := ri.same sab
    have oib := oi.same sab
    refine ⟨R1, R2, _, _, _, _, rfl, rfl, .inr ⟨SqL.of hR1w, SqL.of hR2v⟩, ndb.isds (fun _ h => h), ndb.isds (fun _ h => h), Nat.le_trans (dep_Ns _) (by decide), _, rfl, ?_⟩
    rw [ndb.eqs (fun _ h => h) (fun _ h => h)]
    refine iteND (fun h => absurd rfl h) (fun _ => ?_)
    have told : ∃ x0 x1 : V, Hb t = some (.lst [x0, x1, .bl true]) := by
      rcases oib with ⟨_, r, z, h, _⟩ | ⟨L, h, _⟩
      · exact ⟨_, _, h⟩
      · exact ⟨_, _, h⟩
    obtain ⟨x0, x1, ht⟩ := told
    refine ⟨_, rfl, t, _, _, .bl true, rfl, rfl, SqL.of ht, rfl, _, rfl, iteF ?_⟩
    rcases rib with ⟨rfl, acy⟩ | ⟨L, rfl, rL⟩
    · refine ⟨_, rfl, _, rfl, iteT ?_⟩
      rcases oib with ⟨_, r, z, h, hz, od⟩ | ⟨L, h, r, _, rg, rs⟩
      · refine ⟨_, rfl, t, _, _, .non, rfl, rfl, SqL.of h, rfl, rfl, _, rfl, iteT ?_⟩
        refine ⟨_, rfl, t, _, _, .ref r, rfl, rfl, SqL.of h, rfl, _, rfl, r, g, κ, vs, z, l, E, rfl, ndb, grb, hz, by omega, od, fun H' _ => q H'⟩
      · exact (acy.no rg rs).elim
    · refine ⟨_, rfl, _, rfl, iteF ?_⟩
      obtain ⟨r1, hr1, rg1, rs1⟩ := rL
      rcases oib with ⟨acy, _⟩ | ⟨L2, h, r2, hr2, rg2, rs2⟩
      · exact (acy.no rg1 rs1).elim
      · refine ⟨_, rfl, t, _, _, .ref L2, rfl, rfl, SqL.of h, rfl, rfl, _, rfl, iteT ?_⟩
        refine ⟨_, rfl, _, rfl, L, g, κ, vs, r1, l, E, rfl, ndb, grb, hr1, by omega, rg1, rs1, fun Hc sc => ⟨_, rfl, iteT ?_⟩⟩
        refine ⟨_, rfl, t, _, _, .ref L2, rfl, rfl, SqL.of (sc _ _ h), rfl, _, rfl, L2, g, κ, vs, r2, l, E, rfl, ndb.same sc, grb.same sc, sc _ _ hr2, by omega, rg2, rs2, fun H' _ => q H'⟩
  · refine ⟨_, rfl, D, cs, rfl, SqL.of hD8, _, _, rfl, rfl, (by show (0 : Int) < 2; decide), rfl, _, rfl, ?_⟩
    refine iteDd (fun _ => ?_) (fun _ => ?_)
    · have two : ∀ (x : V) (H9 : Hp), Same H8 H9 -> RIn H9 E vs x -> ∀ t H10, Same H9 H10 -> OIn H10 E vs t -> F [some (.ref a), some (.ref D), some (.ref g), some (.ref f), some x, some (.ref t)] H10 := fun x H9 s9 ri t H10 s10 oi => hF _ _ ⟨x, t, rfl, s9.trans s10, ri.same s10, oi⟩
      refine ⟨_, rfl, f, κ, vs, l', E, rfl, nd8, gh, by omega, fun H9 s9 acy => ?_, fun L r H9 s9 hL rg rs => ?_⟩
      · have k := two .non H9 s9 (.inl ⟨rfl, acy⟩)
        exact ⟨_, rfl, f, κ, vs, l', E, rfl, nd8.same s9, gh.same s9, by omega, fun t r z H' s h1 h2 od acy => k t H' s (.inl ⟨acy, r, z, h1, h2, od⟩), fun t L r H' s h1 hL rg rs => k t H' s (.inr ⟨L, h1, r, hL, rg, rs⟩)⟩
      · have k := two (.ref L) H9 s9 (.inr ⟨L, rfl, r, hL, rg, rs⟩)
        exact ⟨_, rfl, f, κ, vs, l', E, rfl, nd8.same s9, gh.same s9, by omega, fun t r z H' s h1 h2 od acy => k t H' s (.inl ⟨acy, r, z, h1, h2, od⟩), fun t L r H' s h1 hL rg rs => k t H' s (.inr ⟨L, h1, r, hL, rg, rs⟩)⟩
    · have two : ∀ (t : Addr) (H9 : Hp), Same H8 H9 -> OIn H9 E vs t -> ∀ x H10, Same H9 H10 -> RIn H10 E vs x -> F [some (.ref a), some (.ref D), some (.ref g), some (.ref f), some x, some (.ref t)] H10 := fun t H9 s9 oi x H10 s10 ri => hF _ _ ⟨x, t, rfl, s9.trans s10, ri, oi.same s10⟩
      refine ⟨_, rfl, f, κ, vs, l', E, rfl, nd8, gh, by omega, fun t r z H9 s9 h1 h2 od acy => ?_, fun t L r H9 s9 h1 hL rg rs => ?_⟩
      · have k := two t H9 s9 (.inl ⟨acy, r, z, h1, h2, od⟩)
        exact ⟨_, rfl, f, κ, vs, l', E, rfl, nd8.same s9, gh.same s9, by omega, fun H' s acy => k _ H' s (.inl ⟨rfl, acy⟩), fun L r H' s hL rg rs => k _ H' s (.inr ⟨L, rfl, r, hL, rg, rs⟩)⟩
      · have k := two t H9 s9 (.inr ⟨L, h1, r, hL, rg, rs⟩)
        exact ⟨_, rfl, f, κ, vs, l', E, rfl, nd8.same s9, gh.same s9, by omega, fun H' s acy => k _ H' s (.inl ⟨rfl, acy⟩), fun L r H' s hL rg rs => k _ H' s (.inr ⟨L, rfl, r, hL, rg, rs⟩)⟩
end
end K31
namespace K31
open PySem L2
end K31
open PySem PySem.W PyProof.Rows
set_option maxRecDepth 100000 in
set_option maxHeartbeats 0 in
theorem PySem.Challenge.cw_leafsay_k31_rings_and_orders_holds : PySem.Challenge.rw_leafsay_k31_rings_and_orders.Holds := by
  w_on; o_law; k_head; (case hw => w_witness2)
  k_fill
  refine L2.walk_ofK (l := PySem.Challenge.rw_leafsay_k31_rings_and_orders) (n := 63) (k := 140) (x := "_law_script") (CX := L2.CX0) (sp := K31.spLaw) rfl (by decide) rfl ⟨rfl, by decide, by decide, rfl⟩ (fun w h Y => PySem.W.kIn_of Y) ?F (fun K H a ns hl _ hS => ⟨a, ns, rfl, hS, hl, fun _ => rfl⟩) (fun _ _ _ _ z => z)
  case F =>
    intro w mg fa h KX G hmg
    have T : ∃ T : K31.Adr, K31.Tx (L2.KOf KX) mg T := by
      dsimp only [L2.KOf]
      refine' K31.tx_mk KX G ?m_LeafError ?m_NoText ?m_TooGreat ?m_NoName ?m_NoRule ?m_NoKind ?m_NoTree ?m_NoPlace ?m_NoGiven ?m_NoWalk ?m_Ring ?a0 ?i0 ?l0 ?c0 ?k0 ?a1 ?l1 ?c1 ?k1 ?a2 ?l2 ?c2 ?k2 ?a3 ?l3 ?c3 ?k3 ?a4 ?l4 ?c4 ?k4 ?a5 ?l5 ?c5 ?k5 ?a6 ?l6 ?c6 ?k6 ?a7 ?l7 ?c7 ?k7 ?a8 ?l8 ?c8 ?k8 ?a9 ?l9 ?c9 ?k9 ?a10 ?l10 ?c10 ?k10 ?a11 ?l11 ?c11 ?k11 ?a12 ?l12 ?c12 ?k12 ?z_ValueError ?z_bool ?z_int ?z_isinstance ?z_len ?z_list ?z_range ?z_sorted ?z_str ?z_sum ?z_tuple ?rex_Ring ?rini_Ring ?rfn_Ring ?rsa_Ring ?rov_Ring ?rrg_Ring ?rhd_Ring ?xga_Ring ?xgt_Ring ?xca_Ring ?xsp_Ring ?xtk_Ring ?xmo_Ring ?xmb_Ring ?u_Ring_Ring ?i_Ring_0 ?i_Ring_1 ?i_Ring_2
      (case m_LeafError => k_is)
      (case m_NoText => k_is)
      (case m_TooGreat => k_is)
      (case m_NoName => k_is)
      (case m_NoRule => k_is)
      (case m_NoKind => k_is)
      (case m_NoTree => k_is)
      (case m_NoPlace => k_is)
      (case m_NoGiven => k_is)
      (case m_NoWalk => k_is)
      (case m_Ring => k_is)
      (case a0 => k_is)
      (case i0 => k_is)
      (case l0 => k_is)
      (case c0 => k_is)
      (case k0 => k_is)
      (case a1 => k_is)
      (case l1 => k_is)
      (case c1 => k_is)
      (case k1 => k_is)
      (case a2 => k_is)
      (case l2 => k_is)
      (case c2 => k_is)
      (case k2 => k_is)
      (case a3 => k_is)
      (case l3 => k_is)
      (case c3 => k_is)
      (case k3 => k_is)
      (case a4 => k_is)
      (case l4 => k_is)
      (case c4 => k_is)
      (case k4 => k_is)
      (case a5 => k_is)
      (case l5 => k_is)
      (case c5 => k_is)
      (case k5 => k_is)
      (case a6 => k_is)
      (case l6 => k_is)
      (case c6 => k_is)
      (case k6 => k_is)
      (case a7 => k_is)
      (case l7 => k_is)
      (case c7 => k_is)
      (case k7 => k_is)
      (case a8 => k_is)
      (case l8 => k_is)
      (case c8 => k_is)
      (case k8 => k_is)
      (case a9 => k_is)
      (case l9 => k_is)
      (case c9 => k_is)
      (case k9 => k_is)
      (case a10 => k_is)
      (case l10 => k_is)
      (case c10 => k_is)
      (case k10 => k_is)
      (case a11 => k_is)
      (case l11 => k_is)
      (case c11 => k_is)
      (case k11 => k_is)
      (case a12 => k_is)
      (case l12 => k_is)
      (case c12 => k_is)
      (case k12 => k_is)
      (case z_ValueError => k_is)
      (case z_bool => k_is)
      (case z_int => k_is)
      (case z_isinstance => k_is)
      (case z_len => k_is)
      (case z_list => k_is)
      (case z_range => k_is)
      (case z_sorted => k_is)
      (case z_str => k_is)
      (case z_sum => k_is)
      (case z_tuple => k_is)
      (case rex_Ring => kernel_rfl)
      (case rini_Ring => (first | k_is | kernel_rfl))
      (case rfn_Ring => (first | k_is | kernel_rfl))
      (case rsa_Ring => (first | k_is | kernel_rfl))
      (case rov_Ring => kernel_rfl)
      (case rrg_Ring => (first | k_is | kernel_rfl))
      (case rhd_Ring => (first | k_is | kernel_rfl))
      (case xga_Ring => k_is)
      (case xgt_Ring => k_is)
      (case xca_Ring => k_is)
      (case xsp_Ring => k_is)
      (case xtk_Ring => k_is)
      (case xmo_Ring => k_is)
      (case xmb_Ring => k_is)
      (case u_Ring_Ring => k_is)
      (case i_Ring_0 => kit_is)
      (case i_Ring_1 => kit_is)
      (case i_Ring_2 => kit_is)
    obtain ⟨T, TX⟩ := T
    have e0 := hmg.symm.trans TX.m_law
    cases e0
    obtain ⟨oc, od, kV, doc, pm, an, cdv, ct, osl, efd, _, _⟩ := TX.F_law.ex
    refine ⟨T.d_law, fun s u => ?_, fun base _ _ => K31.ok_law TX⟩
    rw [efd]
    exact .of_eq rfl
