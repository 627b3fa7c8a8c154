import PyProof.Rows.All
import Wide.All
import OpenK.AllK
import Wide.FinOn
import Lean
import PyProof.EqAt
import PyProof.EqKinds
import PyProof.TupleCall
import PyProof.NeKinds
import PyProof.FitsReplace
import PyProof.Rows.SumAny
import PyProof.Rows.MinMaxN
import PyProof.Rows.CallKwBuiltin
import PyProof.StrBlock2
import KE.KMinKey
import OpenK.KOwn
import PyProof.ExcArgsOwn
import KE.KIsAll
import PyProof.ReprRoads
import PyProof.ReprBulk
import PyProof.StrWalks
import PyProof.ConsumeWalk
import PyProof.StrCalls2
import PyProof.EnumMake
import PyProof.Draws
import PyProof.Rows.EnumRows
import PyProof.Rows.FactsT2
import PyProof.CompUse
import KE.KRevIter
import PyProof.ListStr
import KE.KIntText
import PyProof.StrLawsIdx
import PyProof.StrLawsNeg
import PyProof.StrLawsTight
import PyProof.StrLawsChain
import PyProof.Rows.StrItems
import PyProof.Rows.StrFirst
import PyProof.Rows.StrLawsPart
import PyProof.Rows.Range3
import PyProof.Rows.StrWeight2
import PyProof.AutoListH
import PyProof.TupleOfGen
import PyProof.WalksEnum
import PyProof.FactsAll.range_2
import PyProof.ZipIter
import PyProof.Rows.SetFrom
import PyProof.SetRoads
import KE.KSortAsk
import KE.KSortTup
import PySem.Challenge.RW_leafsay_k12_let_by
/-! Names that stand for nothing: where a name is taken, the head goes on without the twin of that name, and the compiled text stays small. -/
def PySem.W.Fast.tw4105076980354624673 : Nat := 0
def PySem.W.Fast.tw10649663259432101338 : Nat := 0
def PySem.W.Fast.tw3384206485786972508 : Nat := 0
def PySem.W.Fast.tw16668587096600525178 : Nat := 0
def PySem.W.Fast.tw13457175216800180834 : Nat := 0
def PySem.W.Fast.tw1377283082112828964 : Nat := 0
def PySem.W.Fast.tw11127516456570077418 : Nat := 0
def PySem.W.Fast.tw6007269587150988707 : Nat := 0
def PySem.W.Fast.tw7944439438286884285 : Nat := 0
def PySem.W.Fast.tw6852369951440046354 : Nat := 0
def PySem.W.Fast.tw12125221211776715864 : Nat := 0
def PySem.W.Fast.tw7069752255370177409 : Nat := 0
def PySem.W.Fast.tw11053360476306435300 : Nat := 0
def PySem.W.Fast.tw2097387967222039361 : Nat := 0
def PySem.W.Fast.tw16342168853638882753 : Nat := 0
def PySem.W.Fast.tw3747076728907360154 : Nat := 0
def PySem.W.Fast.tw6178134075454498766 : PySem.Program := PySem.Challenge.pw_leafsay_k12_let_by
theorem PySem.W.Fast.te6178134075454498766 : PySem.Challenge.pw_leafsay_k12_let_by = PySem.W.Fast.tw6178134075454498766 := rfl
set_option Elab.async false
set_option linter.all false
set_option maxRecDepth 100000
namespace L2
open PySem PySem.Spec PyProof.Rows
abbrev Key := Sum Int Str
def keyIs : Key -> Value -> Bool
  | .inl k, v => Value.isInt k v
  | .inr x, v => Value.isStrOf x v
def keyH (w : World) : Key -> Int
  | .inl k => hashInt k
  | .inr x => hashStr w x
theorem keyIs_shape : ∀ {k : Key} {v : Value}, keyIs k v = true -> (∃ i t, k = Sum.inl i /\ v = Value.int i t) \/ (∃ x t, k = Sum.inr x /\ v = Value.str x t)
  | .inl i, v, h => by
    obtain ⟨t, e⟩ := Value.isInt_shape (k := i) (v := v) h
    exact .inl ⟨i, t, rfl, e⟩
  | .inr x, v, h => by
    obtain ⟨t, e⟩ := Value.isStrOf_shape (x := x) (v := v) h
    exact .inr ⟨x, t, rfl, e⟩
theorem keyIs_int (i : Int) (t : Tok) : keyIs (.inl i) (.int i t) = true := by simp [keyIs, Value.isInt]
theorem keyIs_str (x : Str) (t : Tok) : keyIs (.inr x) (.str x t) = true := by simp [keyIs, Value.isStrOf]
theorem key_ll (a b : Int) : decide ((Sum.inl a : Key) = Sum.inl b) = (a == b) := by
  by_cases e : a = b
  · subst e; simp
  · have h : ¬ (Sum.inl a : Key) = Sum.inl b := fun q => e (Sum.inl.inj q)
    rw [decide_eq_false h]
    exact (beq_eq_false_iff_ne.mpr e).symm
theorem key_rr (a b : Str) : decide ((Sum.inr a : Key) = Sum.inr b) = decide (a = b) := by
  by_cases e : a = b
  · subst e; simp
  · have h : ¬ (Sum.inr a : Key) = Sum.inr b := fun q => e (Sum.inr.inj q)
    rw [decide_eq_false h, decide_eq_false e]
theorem key_lr (a : Int) (b : Str) : decide ((Sum.inl a : Key) = Sum.inr b) = false := decide_eq_false (fun q => nomatch q)
theorem key_rl (a : Str) (b : Int) : decide ((Sum.inr a : Key) = Sum.inl b) = false := decide_eq_false (fun q => nomatch q)
def mixKind (prog : Program) (w : World) : PySem.KeyKind prog w Key where
  is := keyIs
  hash := keyH w
  inj := fun v a b ha hb => by
    rcases keyIs_shape ha with ⟨i, t, rfl, rfl⟩ | ⟨x, t, rfl, rfl⟩
    · rcases keyIs_shape hb with ⟨j, u, rfl, e⟩ | ⟨y, u, rfl, e⟩
      · injection e with e1 _; rw [e1]
      · exact nomatch e
    · rcases keyIs_shape hb with ⟨j, u, rfl, e⟩ | ⟨y, u, rfl, e⟩
      · exact nomatch e
      · injection e with e1 _; rw [e1]
  byValue := fun k v h => by
    rcases keyIs_shape h with ⟨i, t, rfl, rfl⟩ | ⟨x, t, rfl, rfl⟩ <;> rfl
  pyHash := fun hv h => by
    rcases keyIs_shape hv with ⟨i, t, rfl, rfl⟩ | ⟨x, t, rfl, rfl⟩
    · exact wpAny_pyHash_int h
    · exact wpAny_pyHash_str h
  eqBool := fun hu hv h => by
    rcases keyIs_shape hu with ⟨i, t, rfl, rfl⟩ | ⟨x, t, rfl, rfl⟩
    · rcases keyIs_shape hv with ⟨j, u, rfl, rfl⟩ | ⟨y, u, rfl, rfl⟩
      · rw [key_ll] at h; exact wpAny_eqBool_int h
      · rw [key_lr] at h; exact SeqAt.EqAt.int_str i t y u _ _ _ _ h
    · rcases keyIs_shape hv with ⟨j, u, rfl, rfl⟩ | ⟨y, u, rfl, rfl⟩
      · rw [key_rl] at h; exact SeqAt.EqAt.str_int x t j u _ _ _ _ h
      · rw [key_rr] at h; exact wpAny_eqBool_str h
  «strs» := fun k x t v h => by
    rcases keyIs_shape h with ⟨i, u, rfl, e⟩ | ⟨y, u, rfl, e⟩
    · exact nomatch e
    · injection e with e1 _
      subst e1
      cases v <;> rfl
theorem mixKind_int (prog : Program) (w : World) (i : Int) (t : Tok) : (mixKind prog w).is (.inl i) (.int i t) = true := keyIs_int i t
theorem mixKind_str (prog : Program) (w : World) (x : Str) (t : Tok) : (mixKind prog w).is (.inr x) (.str x t) = true := keyIs_str x t
end L2
namespace L2
open PySem PySem.Spec PyProof.Rows
inductive V where
  | non | bl (b : Bool) | int (i : Int) | str (x : Str) | byt (b : Array UInt8) | flt (b : UInt64) | ref (a : Addr) | ty (n : String)
  deriving DecidableEq
def RelV : V -> Value -> Prop
  | .non, u => u = Value.none
  | .bl b, u => u = Value.bool b
  | .int i, u => ∃ t, u = Value.int i t
  | .str x, u => ∃ t, u = Value.str x t
  | .byt b, u => ∃ t, u = Value.bytes b t
  | .flt b, u => ∃ t, u = Value.float b t
  | .ref a, u => u = Value.ref a
  | .ty n, u => u = Value.type n
abbrev Vals : List V -> List Value -> Prop := Paired RelV
theorem Vals.length {xs : List V} {us : List Value} (r : Vals xs us) : xs.length = us.length := Paired.length r
theorem Vals.get : ∀ {xs : List V} {us : List Value} {i : Nat} {x : V}, Vals xs us -> xs[i]? = some x -> ∃ u, us[i]? = some u /\ RelV x u
  | _, _, _, _, .nil, e => by simp at e
  | _, _, 0, _, .cons r _, e => by simp at e; subst e; exact ⟨_, rfl, r⟩
  | _, _, i + 1, x, .cons _ t, e => by
    obtain ⟨u, h1, h2⟩ := Vals.get (i := i) (x := x) t (by simpa using e)
    exact ⟨u, by simpa using h1, h2⟩
theorem Vals.set {x : V} {u : Value} (r : RelV x u) : ∀ {xs : List V} {us : List Value} (i : Nat), Vals xs us -> Vals (xs.set i x) (us.set i u)
  | _, _, _, .nil => .nil
  | _, _, 0, .cons _ t => .cons r t
  | _, _, i + 1, .cons q t => .cons q (Vals.set r i t)
theorem Vals.append : ∀ {xs ys : List V} {us ws : List Value}, Vals xs us -> Vals ys ws -> Vals (xs ++ ys) (us ++ ws)
  | _, _, _, _, .nil, s => s
  | _, _, _, _, .cons r t, s => .cons r (Vals.append t s)
theorem Vals.take : ∀ {xs : List V} {us : List Value} (n : Nat), Vals xs us -> Vals (xs.take n) (us.take n)
  | _, _, 0, _ => .nil
  | _, _, _ + 1, .nil => .nil
  | _, _, n + 1, .cons r t => .cons r (Vals.take n t)
theorem Vals.drop : ∀ {xs : List V} {us : List Value} (n : Nat), Vals xs us -> Vals (xs.drop n) (us.drop n)
  | _, _, 0, r => r
  | _, _, _ + 1, .nil => .nil
  | _, _, n + 1, .cons _ t => Vals.drop n t
def RelO : Option V -> Option Value -> Prop
  | some v, some u => RelV v u
  | none, none => True
  | _, _ => False
def KV {κ : Type} : List (κ × V) -> List (κ × Value) -> Prop := Paired fun (p : κ × V) (q : κ × Value) => p.1 = q.1 /\ RelV p.2 q.2
def kV : Key -> V
  | .inl i => .int i
  | .inr x => .str x
inductive HO where
  /-- a list -/
  | lst (xs : List V)
  /-- a tuple (never changes) -/
  | tup (xs : List V)
  /-- a dict whose keys are ints and texts; one whose keys are tuples of ints and texts (the empty one is both) -/
  | dK (kvs : List (Key × V)) | dT (kvs : List (List Key × V))
  /-- a set of ints: its members, its size -/
  | set (S : Int -> Bool) (n : Nat)
  /-- an instance of the class at C, its dict at dx, its attributes -/
  | ins (C dx : Addr) (fs : List (Str × V))
  /-- the dict of the instance at x -/
  | own (x : Addr)
  /-- the dict of an exception -/
  | xd (fs : List (Str × V))
  /-- a bound method, f of x -/
  | met (f x : Addr)
  /-- a range object lo, lo + 1, .. below hi -/
  | rng (lo hi : Int)
  /-- a thing that is known to the object (the script; a dict while a loop walks it): read, never written while it is so -/
  | frz (o : Obj) (u : HO)
  /-- a code object's table -/
  | tbl (ps : Array Value)
  /-- any other thing, by what is true of its one object (a def of one's own: SetO a S n := HO.ext fun h => ..) -/
  | ext (φ : Heap -> Prop)
abbrev Hp := Addr -> Option HO
def upd (H : Hp) (a : Addr) (o : HO) : Hp := fun b => if b = a then some o else H b
theorem upd_same {H : Hp} {a : Addr} {o : HO} : upd H a o a = some o := by unfold upd; rw [if_pos rfl]
theorem upd_ne {H : Hp} {a b : Addr} {o : HO} (h : b ≠ a) : upd H a o b = H b := by unfold upd; rw [if_neg h]
theorem ne_of {H : Hp} {a b : Addr} {o u : HO} (h : H a = some o) (h' : H b = some u) (d : o ≠ u) : a ≠ b := by
  intro e; subst e; rw [h] at h'; exact d (Option.some.inj h')
theorem ne_of_none {H : Hp} {a b : Addr} {o : HO} (h : H a = some o) (h' : H b = none) : a ≠ b := by
  intro e; subst e; rw [h] at h'; cases h'
section
variable (P : Program) (w : World)
def ObjOk (H : Hp) (h : Heap) (a : Addr) : HO -> Prop
  | .lst xs => xs.length <= sizeLine /\ ∃ (its : List Value) (n : Nat), Vals xs its /\ h.get? a = some { cls := .type "list", data := .seq its.toArray n }
  | .tup xs => xs.length <= sizeLine /\ ∃ its : List Value, Vals xs its /\ IsTup h a its.toArray
  | .dK kvs => kvs.length <= sizeLine /\ (a == sysModules) = false /\ ∃ vs, KV kvs vs /\ h.DictOf (mixKind P w) a vs
  | .dT kvs => kvs.length <= sizeLine /\ (a == sysModules) = false /\ ∃ xs : List (List Key × Addr × Value),
      Paired (fun (p : List Key × V) (q : List Key × Addr × Value) => p.1 = q.1 /\ H q.2.1 = some (.tup (p.1.map kV)) /\ RelV p.2 q.2.2) kvs xs /\
      ∃ o es ep, h.get? a = some o /\ o.ExactDict /\ o.data = .dict es ep /\ es.toList = xs.map (entryOfKey (tupleKind (mixKind P w))) /\ (xs.map (·.1)).Nodup
  | .set S n => h.SetOf (intKind P w) a S n
  | .ins C dx fs => H dx = some (.own a) /\ fs.length <= 1000 /\ dx ≠ a /\ h.get? a = some (PySem.W.instObj C dx) /\
      ∃ mA, h.Ns1 dx mA /\ (∀ f, RelO (fs.lookup f) (mA f)) /\ PySem.Within mA (fs.map (·.1))
  | .own _ => ∃ o, h.get? a = some o
  | .xd fs => ∃ mA, h.Ns1 a mA /\ ∀ f, RelO (fs.lookup f) (mA f)
  | .rng lo hi => ∃ t u v, h.get? a = some { cls := .type "range", data := .fields #[.int lo t, .int hi u, .int 1 v] }
  | .frz o u => h.get? a = some o /\ ObjOk H h a u
  | .tbl ps => h.get? a = some { cls := .none, data := .fields ps }
  | .met f x => h.get? a = some (PySem.W.methodObj (.ref f) (.ref x))
  | .ext φ => φ h /\ (∃ o, h.get? a = some o) /\ ∀ h1 h2 : Heap, φ h1 -> (∀ o, h1.get? a = some o -> h2.get? a = some o) -> φ h2
def HOk (H : Hp) (h : Heap) : Prop := ∀ a o, H a = some o -> ObjOk P w H h a o
end
section
variable {P : Program} {w : World} {H H' : Hp} {h h' : Heap} {a : Addr} {o : HO}
theorem ObjOk.lt (x : ObjOk P w H h a o) : a < h.objs.size := by
  cases o with
  | lst xs => obtain ⟨_, _, _, _, e⟩ := x; exact Heap.lt_size e
  | tup xs => obtain ⟨_, _, _, p⟩ := x; exact p.lt
  | dK kvs => obtain ⟨_, _, _, _, o, _, _, e, _⟩ := x; exact Heap.lt_size e
  | dT kvs => obtain ⟨_, _, _, _, o, _, _, e, _⟩ := x; exact Heap.lt_size e
  | set S n => obtain ⟨o, _, _, _, e, _⟩ := x; exact Heap.lt_size e
  | ins C dx fs => obtain ⟨_, _, _, e, _⟩ := x; exact Heap.lt_size e
  | own y => obtain ⟨_, e⟩ := x; exact Heap.lt_size e
  | xd fs => obtain ⟨_, ⟨_, _, _, e, _⟩, _⟩ := x; exact Heap.lt_size e
  | rng lo hi => obtain ⟨_, _, _, e⟩ := x; exact Heap.lt_size e
  | frz ob u => obtain ⟨e, _⟩ := x; exact Heap.lt_size e
  | tbl ps => exact Heap.lt_size (show h.get? a = some _ from x)
  | met f y => exact Heap.lt_size (show h.get? a = some _ from x)
  | ext φ => obtain ⟨_, ⟨_, e⟩, _⟩ := x; exact Heap.lt_size e
theorem Paired.mapP {α β : Type} {F G : α -> β -> Prop} : ∀ {l₁ : List α} {l₂ : List β}, Paired F l₁ l₂ -> (∀ a b, F a b -> G a b) -> Paired G l₁ l₂
  | _, _, .nil, _ => .nil
  | _, _, .cons r t, f => .cons (f _ _ r) (Paired.mapP t f)
theorem ObjOk.stay (x : ObjOk P w H h a o) (k : ∀ b u, (b = a \/ H b = some (.own a)) -> h.get? b = some u -> h'.get? b = some u)
    (ho : ∀ b, H b = some (.own a) -> H' b = some (.own a)) (ht : ∀ b xs, H b = some (.tup xs) -> H' b = some (.tup xs)) : ObjOk P w H' h' a o := by
  induction o with
  | lst xs => obtain ⟨z, its, n, r, e⟩ := x; exact ⟨z, its, n, r, k _ _ (.inl rfl) e⟩
  | tup xs => obtain ⟨z, its, r, ob, e, c⟩ := x; exact ⟨z, its, r, ob, k _ _ (.inl rfl) e, c⟩
  | dK kvs => obtain ⟨z, y, vs, r, ob, es, ep, e, c⟩ := x; exact ⟨z, y, vs, r, ob, es, ep, k _ _ (.inl rfl) e, c⟩
  | dT kvs =>
    obtain ⟨z, y, xs, r, ob, es, ep, e, c⟩ := x
    exact ⟨z, y, xs, Paired.mapP r fun p q z => ⟨z.1, ht _ _ z.2.1, z.2.2⟩, ob, es, ep, k _ _ (.inl rfl) e, c⟩
  | set S n => obtain ⟨ob, es, ep, t, e, c⟩ := x; exact ⟨ob, es, ep, t, k _ _ (.inl rfl) e, c⟩
  | ins C dx fs =>
    obtain ⟨d, z, ne, e, mA, ⟨od, es, ep, e2, c⟩, r⟩ := x
    exact ⟨ho _ d, z, ne, k _ _ (.inl rfl) e, mA, ⟨od, es, ep, k _ _ (.inr d) e2, c⟩, r⟩
  | own y => obtain ⟨ob, e⟩ := x; exact ⟨ob, k _ _ (.inl rfl) e⟩
  | xd fs => obtain ⟨mA, ⟨od, es, ep, e, c⟩, r⟩ := x; exact ⟨mA, ⟨od, es, ep, k _ _ (.inl rfl) e, c⟩, r⟩
  | rng lo hi => obtain ⟨t, u, v, e⟩ := x; exact ⟨t, u, v, k _ _ (.inl rfl) e⟩
  | frz ob u ih => obtain ⟨e, q⟩ := x; exact ⟨k _ _ (.inl rfl) e, ih q⟩
  | tbl ps =>
    have e : h.get? a = some { cls := .none, data := .fields ps } := x
    show h'.get? a = some { cls := .none, data := .fields ps }
    exact k a _ (.inl rfl) e
  | met f y =>
    have e : h.get? a = some (PySem.W.methodObj (.ref f) (.ref y)) := x
    show h'.get? a = some (PySem.W.methodObj (.ref f) (.ref y))
    exact k a _ (.inl rfl) e
  | ext φ => obtain ⟨p, ⟨o, e⟩, st⟩ := x; exact ⟨st _ _ p fun o q => k _ _ (.inl rfl) q, ⟨o, k _ _ (.inl rfl) e⟩, st⟩
theorem HOk.lt (x : HOk P w H h) (e : H a = some o) : a < h.objs.size := (x a o e).lt
theorem HOk.fresh (x : HOk P w H h) (e : h.objs.size <= a) : H a = none := by
  cases q : H a with
  | none => rfl
  | some u => exact absurd (Nat.lt_of_lt_of_le (x.lt q) e) (Nat.lt_irrefl _)
theorem HOk.kept (x : HOk P w H h) (k : ∀ b u, h.get? b = some u -> h'.get? b = some u) : HOk P w H h' := fun a o e =>
  (x a o e).stay (fun b u _ q => k b u q) (fun _ q => q) fun _ _ q => q
theorem HOk.laid (x : HOk P w H h) (k : ∀ b u, h.get? b = some u -> h'.get? b = some u) (hp : h.objs.size <= a) (new : ObjOk P w (upd H a o) h' a o) : HOk P w (upd H a o) h' := fun b u e => by
  have hn := x.fresh hp
  by_cases hb : b = a
  · subst hb; rw [upd_same] at e; cases e; exact new
  · rw [upd_ne hb] at e
    exact (x b u e).stay (fun c v _ q => k c v q) (fun c q => by rw [upd_ne (ne_of_none q hn)]; exact q) fun c xs q => by rw [upd_ne (ne_of_none q hn)]; exact q
end
def Rd (H : Hp) (a : Addr) (u : HO) : Prop := H a = some u \/ ∃ o, H a = some (.frz o u)
theorem Rd.ok {P : Program} {w : World} {H : Hp} {h : Heap} {a : Addr} {u : HO} (r : Rd H a u) (x : HOk P w H h) : ObjOk P w H h a u := by
  rcases r with r | ⟨o, r⟩
  · exact x a u r
  · obtain ⟨_, q⟩ := x a _ r
    exact q
def Mut : Option HO -> Prop
  | some (.lst _) => True
  | some (.dK _) => True
  | some (.dT _) => True
  | some (.set _ _) => True
  | some (.ins _ _ _) => True
  | some (.ext _) => True
  | _ => False
section
variable {P : Program} {w : World} {H : Hp} {h h' : Heap} {x e : Addr} {o' : HO}
theorem HOk.write (ok : HOk P w H h) (mu : Mut (H x)) (he : e = x \/ H e = some (.own x)) (k : ∀ b u, b ≠ e -> h.get? b = some u -> h'.get? b = some u) (heo : ∃ u, h'.get? e = some u)
    (new : ObjOk P w (upd H x o') h' x o') : HOk P w (upd H x o') h' := fun b u q => by
  have nown : ∀ c y, H c = some (.own y) -> c ≠ x := fun c y r z => by subst z; rw [r] at mu; exact mu
  have ntup : ∀ c xs, H c = some (.tup xs) -> c ≠ x := fun c xs r z => by subst z; rw [r] at mu; exact mu
  by_cases hb : b = x
  · subst hb; rw [upd_same] at q; cases q; exact new
  · rw [upd_ne hb] at q
    by_cases hbe : b = e
    · have q' : H b = some (.own x) := by
        rcases he with z | z
        · exact absurd (hbe.trans z) hb
        · rw [hbe]; exact z
      rw [q] at q'; cases q'
      obtain ⟨v, hv⟩ := heo
      exact ⟨v, by rw [hbe]; exact hv⟩
    · refine (ok b u q).stay (fun c v hc r => k c v ?_ r) (fun c r => by rw [upd_ne (nown c b r)]; exact r) fun c xs r => by rw [upd_ne (ntup c xs r)]; exact r
      rcases hc with rfl | hc
      · exact hbe
      · rintro rfl
        rcases he with z | z
        · exact nown c b hc z
        · rw [hc] at z; cases z; exact hb rfl
end
structure Un (fs ex : List Addr) (H H' : Hp) (h h' : Heap) : Prop where
  keep : ∀ b o, h.get? b = some o -> H b = none -> b ∉ fs -> b ∉ ex -> h'.get? b = some o
  slot : ∀ b o, h.get? b = some o -> H b = none -> b ∈ fs -> b ∉ ex -> ∃ sl, h'.get? b = some { o with slots := sl }
  free : ∀ b o, h.get? b = some o -> H b = none -> b ∉ ex -> H' b = none
  there : ∀ b o, h.get? b = some o -> b ∉ ex -> ∃ o', h'.get? b = some o'
  tups : ∀ b xs, H b = some (.tup xs) -> H' b = some (.tup xs)
  frzs : ∀ b o u, H b = some (.frz o u) -> H' b = some (.frz o u)
  tbls : ∀ b ps, H b = some (.tbl ps) -> ∃ more, H' b = some (.tbl (ps ++ more))
section
variable {fs fs' ex ex' : List Addr} {H H1 H2 : Hp} {h h1 h2 h' : Heap} {a x e : Addr} {o : HO}
theorem Un.any (u : Un fs ex H H1 h h1) {b : Addr} {ob : Obj} (q : h.get? b = some ob) (n : H b = none) (hx : b ∉ ex) : ∃ sl, h1.get? b = some { ob with slots := sl } := by
  by_cases hb : b ∈ fs
  · exact u.slot b ob q n hb hx
  · exact ⟨ob.slots, u.keep b ob q n hb hx⟩
theorem Un.kept (k : ∀ b u, h.get? b = some u -> h'.get? b = some u) : Un fs ex H H h h' :=
  ⟨fun b ob q _ _ _ => k b ob q, fun b ob q _ _ _ => ⟨ob.slots, k b ob q⟩, fun _ _ _ n _ => n, fun b ob q _ => ⟨ob, k b ob q⟩, fun _ _ q => q, fun _ _ _ q => q, fun _ ps q => ⟨#[], by rw [q]; simp⟩⟩
theorem Un.refl : Un fs ex H H h h := Un.kept fun _ _ q => q
theorem Un.laid (k : ∀ b u, h.get? b = some u -> h'.get? b = some u) (hp : h.objs.size <= a) (hn : H a = none) : Un fs ex H (upd H a o) h h' where
  keep := fun b u q _ _ _ => k b u q
  slot := fun b u q _ _ _ => ⟨u.slots, k b u q⟩
  free := fun b u q n _ => by rw [upd_ne (Nat.ne_of_lt (Nat.lt_of_lt_of_le (Heap.lt_size q) hp))]; exact n
  there := fun b u q _ => ⟨u, k b u q⟩
  tups := fun b xs q => by rw [upd_ne (ne_of_none q hn)]; exact q
  frzs := fun b u xs q => by rw [upd_ne (ne_of_none q hn)]; exact q
  tbls := fun b ps q => ⟨#[], by rw [upd_ne (ne_of_none q hn), q]; simp⟩
theorem Un.write (mu : Mut (H x)) (he : e = x \/ H e = some (.own x)) (k : ∀ b u, b ≠ e -> h.get? b = some u -> h'.get? b = some u) (heo : ∃ u, h'.get? e = some u) : Un fs ex H (upd H x o) h h' := by
  have hx : ∀ b, H b = none -> b ≠ x := fun b n z => by subst z; rw [n] at mu; exact mu
  have hb : ∀ b, H b = none -> b ≠ e := fun b n z => by
    subst z
    rcases he with r | r
    · exact hx b n r
    · rw [n] at r; cases r
  have hm : ∀ b u, H b = some u -> ¬ Mut (some u) -> b ≠ x := fun b u q nm z => by subst z; rw [q] at mu; exact nm mu
  refine ⟨fun b u q n _ _ => k b u (hb b n) q, fun b u q n _ _ => ⟨u.slots, k b u (hb b n) q⟩, fun b u q n _ => by rw [upd_ne (hx b n)]; exact n, fun b u q _ => ?_,
    fun b xs q => by rw [upd_ne (hm b _ q fun z => z)]; exact q, fun b u xs q => by rw [upd_ne (hm b _ q fun z => z)]; exact q, fun b ps q => ⟨#[], by rw [upd_ne (hm b _ q fun z => z), q]; simp⟩⟩
  by_cases hbe : b = e
  · subst hbe; exact heo
  · exact ⟨u, k b u hbe q⟩
end
def trk (h : Heap) (H : Hp) : List Addr := (List.range h.objs.size).filter fun a => (H a).isSome
def hidT (h : Heap) (H : Hp) : Heap := PySem.W.hideAll h (trk h H)
theorem hidT_size (h : Heap) (H : Hp) : (hidT h H).objs.size = h.objs.size := PySem.W.hideAll_size _ _
theorem hidT_get {h : Heap} {H : Hp} {b : Addr} {o : Obj} (e : h.get? b = some o) (n : H b = none) : (hidT h H).get? b = some o :=
  PySem.W.hideAll_get _ e fun hm => by
    have q : (H b).isSome = true := (List.mem_filter.mp hm).2
    rw [n] at q; simp at q
theorem of_hidT {h : Heap} {H : Hp} {b : Addr} {o : Obj} (e : (hidT h H).get? b = some o) : h.get? b = some o /\ H b = none := by
  have e' : h.get? b = some o := PySem.W.of_hideAll (trk h H) e
  refine ⟨e', ?_⟩
  cases q : H b with
  | none => rfl
  | some x =>
    have hm : b ∈ trk h H := List.mem_filter.mpr ⟨List.mem_range.mpr (Heap.lt_size e'), by simp [q]⟩
    have z : (hidT h H).get? b = none := PySem.W.hideAll_none (trk h H) hm
    rw [z] at e; cases e
end L2
namespace L2
open PySem PySem.Spec PyProof.Rows
structure Mod (K : PySem.W.Frag) (mg : Str -> Option Value) (base : Heap) : Prop where
  kin : K.In base
  glob : base.Ns mainGlobals mg
  blt : ∃ mb, base.Ns builtinsNs mb /\ ∀ x : Str, x ≠ "__name__" -> mb x = bootBuiltins x
  nolimit : base.NoLimit
structure Cx where
  prog : Program
  w : World
  K : PySem.W.Frag
  mg : Str -> Option Value
  base : Heap
  A : Around
  N : List Str
  s₀ : Shared
  H₀ : Hp
  env : Env
  outer : List Env
  stack : List Env
  ex : List Addr
  fn : Str -> Bool
  calm : Bool
  pn : List (Addr × Obj)
  xe : Value -> Shared -> Prop
def frs (l : List Env) : List Addr := l.filterMap (·.frame)
abbrev Cx.fs (X : Cx) : List Addr := frs X.outer
def Vis (sc : Scope) (x : Str) : Prop := sc.names.lookup x = some .local \/ sc.names.lookup x = some .cell \/ sc.names.lookup x = some .free
def Loc (sc : Scope) (x : Str) : Prop := sc.names.lookup x = some .local \/ sc.names.lookup x = some .cell
def Look (env : Env) (h : Heap) (m : Str -> Option Value) (x : Str) (u : Value) : Prop :=
  (env.kindOf x = some .local /\ m x = some u) \/ ((env.kindOf x = some .cell \/ env.kindOf x = some .free) /\ ∃ c, env.cells.lookup x = some c /\ h.IsCell c (some u))
structure Cx.Ok (X : Cx) : Prop where
  mod : Mod X.K X.mg X.base
  kind : X.env.scope.kind = .function
  glob : X.env.globals = mainGlobals
  blt : X.env.builtins = builtinsNs
  above : X.s₀.heap.objs.size <= X.env.locals
  inj : ∀ x y c, X.env.cells.lookup x = some c -> X.env.cells.lookup y = some c -> x = y
  has : ∀ x, (X.env.kindOf x = some .cell \/ X.env.kindOf x = some .free) -> ∃ c, X.env.cells.lookup x = some c
  cab : ∀ x c, X.fn x = true -> X.env.cells.lookup x = some c -> X.s₀.heap.objs.size <= c
  hd : X.calm = true -> X.A.handled = none
  frames : X.A.frames = some X.stack
  stk : X.stack = X.outer \/ (X.stack = X.env :: X.outer /\ X.env.frame = some X.env.locals)
  exf : ∀ b ∈ X.ex, b ≠ X.env.locals /\ ∀ x c, X.env.cells.lookup x = some c -> c ≠ b
  bs : ∀ b o, X.base.get? b = some o -> X.s₀.heap.get? b = some o /\ X.H₀ b = none
  bsz : X.base.objs.size <= X.s₀.heap.objs.size
  noex : ∀ b o, X.base.get? b = some o -> b ∉ X.ex
  exfs : ∀ b ∈ X.ex, b ∉ X.fs
  funs : X.s₀.heap.FunFrames X.base X.outer
  frf : ∀ b ∈ X.fs, X.H₀ b = none
structure Inv (X : Cx) (pins : List (Addr × Obj)) (σ : List (Option V)) (H : Hp) (s : Shared) : Prop where
  ok : X.Ok
  os : s.os = X.s₀.os
  bare : AllBare s.gens
  base : Un X.fs X.ex X.H₀ H X.s₀.heap s.heap
  loc : ∃ m, s.heap.Ns X.env.locals m /\ ∀ (i : Nat) (x : Str) (v : V), X.N[i]? = some x -> σ[i]? = some (some v) -> Vis X.env.scope x -> ∃ u, RelV v u /\ Look X.env s.heap m x u
  cell : ∀ x c, X.env.cells.lookup x = some c -> ∃ v, s.heap.IsCell c v
  free : H X.env.locals = none
  freeC : ∀ x c, X.env.cells.lookup x = some c -> H c = none
  pin : ∀ p ∈ X.pn ++ pins, s.heap.get? p.1 = some p.2 /\ H p.1 = none /\ p.1 ≠ X.env.locals /\ p.1 ∉ X.fs /\ ∀ v, p.2.data ≠ .cell v
  hok : HOk X.prog X.w H s.heap
  len : σ.length = X.N.length
section
variable {X : Cx} {pins : List (Addr × Obj)} {σ : List (Option V)} {H H' : Hp} {s : Shared} {h' : Heap}
theorem Cx.Ok.nofr (ok : X.Ok) {b : Addr} {o : Obj} (e : X.base.get? b = some o) : b ∉ X.fs := fun hb => by
  have := (ok.funs.mem hb).1
  rw [e] at this; cases this
theorem Inv.bs (I : Inv X pins σ H s) : ∀ b o, X.base.get? b = some o -> s.heap.get? b = some o /\ H b = none := fun b o e =>
  ⟨I.base.keep b o (I.ok.bs b o e).1 (I.ok.bs b o e).2 (I.ok.nofr e) (I.ok.noex b o e), I.base.free b o (I.ok.bs b o e).1 (I.ok.bs b o e).2 (I.ok.noex b o e)⟩
theorem Inv.bk (I : Inv X pins σ H s) : ∀ b o, X.base.get? b = some o -> s.heap.get? b = some o := fun b o e => (I.bs b o e).1
theorem Inv.mod (I : Inv X pins σ H s) : Mod X.K X.mg X.base := I.ok.mod
theorem Inv.kIn (I : Inv X pins σ H s) : X.K.In s.heap := I.ok.mod.kin.keeps I.bk
theorem Inv.lt (I : Inv X pins σ H s) : X.env.locals < s.heap.objs.size := let ⟨_, hn, _⟩ := I.loc; hn.lt
theorem Inv.sz (I : Inv X pins σ H s) : X.s₀.heap.objs.size <= s.heap.objs.size := Nat.le_trans I.ok.above (Nat.le_of_lt I.lt)
theorem Inv.nofs (I : Inv X pins σ H s) {a : Addr} (h : s.heap.objs.size <= a) : a ∉ X.fs := fun hb => by
  obtain ⟨_, o, ho, _⟩ := I.ok.funs.mem hb
  exact absurd (Nat.lt_of_lt_of_le (Heap.lt_size ho) (Nat.le_trans I.sz h)) (Nat.lt_irrefl _)
theorem Inv.cne (I : Inv X pins σ H s) : ∀ x c, X.env.cells.lookup x = some c -> c ≠ X.env.locals := fun x c e z => by
  obtain ⟨v, o, ho, hd⟩ := I.cell x c e
  obtain ⟨m, ⟨o', es, ep, ho', hd', _⟩, _⟩ := I.loc
  rw [z, ho'] at ho; cases ho; rw [hd'] at hd; cases hd
theorem Inv.funs (I : Inv X pins σ H s) : s.heap.FunFrames X.base X.outer := by
  have all : ∀ (l : List Env), (∀ b ∈ frs l, b ∈ X.fs) -> X.s₀.heap.FunFrames X.base l -> s.heap.FunFrames X.base l := by
    intro l
    induction l with
    | nil => intro _ _; trivial
    | cons env r ih =>
      intro hs hl
      obtain ⟨hk, ⟨L, o, hf, hn, ho, hd⟩, hr⟩ := hl
      have hL : L ∈ X.fs := hs L (by unfold frs; rw [List.filterMap_cons, hf]; exact List.mem_cons_self)
      obtain ⟨sl, e⟩ := I.base.slot L o ho (I.ok.frf L hL) hL fun z => I.ok.exfs L z hL
      exact ⟨hk, ⟨L, _, hf, hn, e, hd⟩, ih (fun b hb => hs b (by unfold frs; rw [List.filterMap_cons, hf]; exact List.mem_cons_of_mem _ hb)) hr⟩
  exact all X.outer (fun _ hb => hb) I.ok.funs
theorem Inv.stack (I : Inv X pins σ H s) : s.heap.FunFrames X.base X.stack := by
  rcases I.ok.stk with e | ⟨e, hf⟩
  · rw [e]; exact I.funs
  · rw [e]
    obtain ⟨m, hn, _⟩ := I.loc
    refine .cons (by rw [I.ok.kind]; decide) hf hn ?_ I.funs
    exact Heap.get?_none_of_le (Nat.le_trans I.ok.bsz I.ok.above)
theorem Inv.stkSub (I : Inv X pins σ H s) : ∀ b ∈ frs X.stack, b ∈ X.env.locals :: X.fs := fun b hb => by
  rcases I.ok.stk with e | ⟨e, hf⟩
  · rw [e] at hb; exact List.mem_cons_of_mem _ hb
  · rw [e] at hb
    unfold frs at hb
    rw [List.filterMap_cons, hf] at hb
    exact hb
theorem Inv.stkFree (I : Inv X pins σ H s) : ∀ b ∈ frs X.stack, H b = none := fun b hb => by
  rcases List.mem_cons.mp (I.stkSub b hb) with e | hb
  · rw [e]; exact I.free
  · obtain ⟨_, o, ho, _⟩ := I.ok.funs.mem hb
    exact I.base.free b o ho (I.ok.frf b hb) fun z => I.ok.exfs b z hb
theorem Inv.step {g' : Array GenState} {t' : Nat} {d' : Drawn} {ch : List Addr} (I : Inv X pins σ H s)
    (hch : ∀ b ∈ ch, (b ∈ X.ex \/ X.s₀.heap.objs.size <= b) /\ b ≠ X.env.locals /\ (∀ x c, X.env.cells.lookup x = some c -> c ≠ b) /\ ∀ p ∈ X.pn ++ pins, p.1 ≠ b)
    (keep : ∀ b o, b ≠ X.env.locals -> b ∉ X.fs -> b ∉ ch -> s.heap.get? b = some o -> H b = none -> h'.get? b = some o)
    (slot : ∀ b o, b ≠ X.env.locals -> b ∈ X.fs -> b ∉ ch -> s.heap.get? b = some o -> H b = none -> ∃ sl, h'.get? b = some { o with slots := sl }) (free : ∀ b o, b ∉ ch -> s.heap.get? b = some o -> H b = none -> H' b = none)
    (there : ∀ b o, b ∉ ch -> s.heap.get? b = some o -> ∃ o', h'.get? b = some o')
    (tups : ∀ b xs, H b = some (.tup xs) -> H' b = some (.tup xs)) (frzs : ∀ b o u, H b = some (.frz o u) -> H' b = some (.frz o u)) (tbls : ∀ b ps, H b = some (.tbl ps) -> ∃ more, H' b = some (.tbl (ps ++ more)))
    (ns : ∀ m, s.heap.Ns X.env.locals m -> h'.Ns X.env.locals m) (hok : HOk X.prog X.w H' h') (hg : AllBare g') :
    Inv X pins σ H' { s with heap := h', gens := g', drawn := d', toks := t' } := by
  have neL : ∀ b o, X.s₀.heap.get? b = some o -> b ≠ X.env.locals := fun b o e => Nat.ne_of_lt (Nat.lt_of_lt_of_le (Heap.lt_size e) I.ok.above)
  have neC : ∀ b o, X.s₀.heap.get? b = some o -> b ∉ X.ex -> b ∉ ch := fun b o e hx hb => by
    rcases (hch b hb).1 with z | z
    · exact hx z
    · exact absurd (Nat.lt_of_lt_of_le (Heap.lt_size e) z) (Nat.lt_irrefl _)
  have cellK : ∀ x c, X.env.cells.lookup x = some c -> ∀ v, s.heap.IsCell c v -> h'.IsCell c v := fun x c e v ⟨o, ho, hd⟩ => by
    have nch : c ∉ ch := fun z => (hch c z).2.2.1 x c e rfl
    by_cases hc : c ∈ X.fs
    · obtain ⟨sl, q⟩ := slot c o (I.cne x c e) hc nch ho (I.freeC x c e)
      exact ⟨_, q, hd⟩
    · exact ⟨o, keep c o (I.cne x c e) hc nch ho (I.freeC x c e), hd⟩
  refine ⟨I.ok, I.os, hg, ⟨fun b o e n hb hx => ?_, fun b o e n hb hx => ?_, fun b o e n hx => ?_, fun b o e hx => ?_, fun b xs e => tups b xs (I.base.tups b xs e), fun b o xs e => frzs b o xs (I.base.frzs b o xs e), fun b ps e => ?_⟩, ?_, fun x c e => ?_, ?_, fun x c e => ?_, fun p hp => ?_, hok, I.len⟩
  · exact keep b o (neL b o e) hb (neC b o e hx) (I.base.keep b o e n hb hx) (I.base.free b o e n hx)
  · obtain ⟨sl, e1⟩ := I.base.slot b o e n hb hx
    obtain ⟨sl', e2⟩ := slot b _ (neL b o e) hb (neC b o e hx) e1 (I.base.free b o e n hx)
    exact ⟨sl', e2⟩
  · obtain ⟨o', e1⟩ := I.base.there b o e hx
    exact free b o' (neC b o e hx) e1 (I.base.free b o e n hx)
  · obtain ⟨o', e1⟩ := I.base.there b o e hx
    exact there b o' (neC b o e hx) e1
  · obtain ⟨m1, e1⟩ := I.base.tbls b ps e
    obtain ⟨m2, e2⟩ := tbls b _ e1
    exact ⟨m1 ++ m2, by rw [e2, Array.append_assoc]⟩
  · obtain ⟨m, hn, hl⟩ := I.loc
    refine ⟨m, ns m hn, fun i x v e1 e2 e3 => ?_⟩
    obtain ⟨u, r, l⟩ := hl i x v e1 e2 e3
    refine ⟨u, r, ?_⟩
    rcases l with l | ⟨k, c, e, z⟩
    · exact .inl l
    · exact .inr ⟨k, c, e, cellK x c e _ z⟩
  · obtain ⟨v, z⟩ := I.cell x c e
    exact ⟨v, cellK x c e v z⟩
  · obtain ⟨m, ⟨o, _, _, ho, _⟩, _⟩ := I.loc
    exact free _ o (fun z => (hch _ z).2.1 rfl) ho I.free
  · obtain ⟨v, o, ho, hd⟩ := I.cell x c e
    exact free c o (fun z => (hch c z).2.2.1 x c e rfl) ho (I.freeC x c e)
  · obtain ⟨e, n, ne, nf, d⟩ := I.pin p hp
    have nch : p.1 ∉ ch := fun z => (hch p.1 z).2.2.2 p hp rfl
    exact ⟨keep p.1 p.2 ne nf nch e n, free p.1 p.2 nch e n, ne, nf, d⟩
theorem Inv.un {t' : Nat} (I : Inv X pins σ H s) (u : Un X.fs [] H H' s.heap h') (hok : HOk X.prog X.w H' h') : Inv X pins σ H' { s with heap := h', toks := t' } := by
  obtain ⟨m, ⟨o, es, ep, ho, r⟩, _⟩ := id I.loc
  obtain ⟨sl, hL⟩ := u.any ho I.free (by simp)
  exact I.step (g' := s.gens) (d' := s.drawn) (ch := []) (fun _ z => nomatch z) (fun b o _ hb _ e n => u.keep b o e n hb (by simp)) (fun b o _ hb _ e n => u.slot b o e n hb (by simp)) (fun b o _ e n => u.free b o e n (by simp)) (fun b o _ e => u.there b o e (by simp)) u.tups u.frzs u.tbls (fun m' hm => by
    obtain ⟨o', es', ep', ho', r'⟩ := hm
    rw [ho] at ho'; cases ho'
    exact ⟨_, es', ep', hL, r'⟩) hok I.bare
theorem Inv.call {g' : Array GenState} {t' : Nat} {d' : Drawn} {ch : List Addr} (I : Inv X pins σ H s) (u : Un (frs X.stack) ch H H' s.heap h') (hok : HOk X.prog X.w H' h') (hg : AllBare g')
    (hch : ∀ b ∈ ch, (b ∈ X.ex \/ X.s₀.heap.objs.size <= b) /\ b ≠ X.env.locals /\ (∀ x c, X.env.cells.lookup x = some c -> c ≠ b) /\ ∀ p ∈ X.pn ++ pins, p.1 ≠ b) :
    Inv X pins σ H' { s with heap := h', gens := g', drawn := d', toks := t' } := by
  obtain ⟨m, ⟨o, es, ep, ho, r⟩, _⟩ := id I.loc
  obtain ⟨sl, hL⟩ := u.any ho I.free fun z => (hch _ z).2.1 rfl
  exact I.step (ch := ch) hch (fun b o hL hb hc e n => u.keep b o e n (fun z => (List.mem_cons.mp (I.stkSub b z)).elim hL hb) hc) (fun b o _ _ hc e n => u.any e n hc) (fun b o hc e n => u.free b o e n hc) (fun b o hc e => u.there b o e hc) u.tups u.frzs u.tbls (fun m' hm => by
    obtain ⟨o', es', ep', ho', r'⟩ := hm
    rw [ho] at ho'; cases ho'
    exact ⟨_, es', ep', hL, r'⟩) hok hg
theorem Inv.turned {t' : Nat} {it : Addr} (I : Inv X pins σ H s) (k : ∀ b o, b ≠ it -> s.heap.get? b = some o -> h'.get? b = some o) (hn : H it = none) (hL : it ≠ X.env.locals)
    (h1 : it ∈ X.ex \/ X.s₀.heap.objs.size <= it) (h2 : ∀ x c, X.env.cells.lookup x = some c -> c ≠ it) (h3 : ∀ p ∈ X.pn ++ pins, p.1 ≠ it) : Inv X pins σ H { s with heap := h', toks := t' } := by
  have nit : ∀ b u, H b = some u -> b ≠ it := fun b u e z => by rw [z, hn] at e; cases e
  refine I.step (g' := s.gens) (d' := s.drawn) (ch := [it]) (fun b hb => ?_) (fun b o _ _ hc e _ => k b o (fun z => hc (by simp [z])) e) (fun b o _ _ hc e _ => ⟨o.slots, k b o (fun z => hc (by simp [z])) e⟩) (fun _ _ _ _ n => n)
    (fun b o hc e => ⟨o, k b o (fun z => hc (by simp [z])) e⟩) (fun _ _ e => e) (fun _ _ _ e => e) (fun b ps e => ⟨#[], by rw [e]; simp⟩) (fun m hm => ?_) (fun b u e => ?_) I.bare
  · have e : b = it := by simpa using hb
    subst e
    exact ⟨h1, hL, h2, h3⟩
  · obtain ⟨o, es, ep, ho, r⟩ := hm
    exact ⟨o, es, ep, k _ o (Ne.symm hL) ho, r⟩
  · refine (I.hok b u e).stay (fun c v hc q => k c v ?_ q) (fun _ q => q) fun _ _ q => q
    rcases hc with z | z
    · rw [z]; exact nit b u e
    · exact nit c _ z
theorem Inv.tok (I : Inv X pins σ H s) (t : Nat) : Inv X pins σ H { s with toks := t } := I.un (h' := s.heap) (t' := t) Un.refl I.hok
theorem Inv.kept {t' : Nat} (I : Inv X pins σ H s) (k : ∀ b u, s.heap.get? b = some u -> h'.get? b = some u) : Inv X pins σ H { s with heap := h', toks := t' } := I.un (Un.kept k) (I.hok.kept k)
theorem Inv.laid {a : Addr} {o : HO} {t' : Nat} (I : Inv X pins σ H s) (k : ∀ b u, s.heap.get? b = some u -> h'.get? b = some u) (hp : s.heap.objs.size <= a) (new : ObjOk X.prog X.w (upd H a o) h' a o) :
    Inv X pins σ (upd H a o) { s with heap := h', toks := t' } := I.un (Un.laid k hp (I.hok.fresh hp)) (I.hok.laid k hp new)
theorem Inv.write {x e : Addr} {o : HO} {t' : Nat} (I : Inv X pins σ H s) (mu : Mut (H x)) (he : e = x \/ H e = some (.own x)) (k : ∀ b u, b ≠ e -> s.heap.get? b = some u -> h'.get? b = some u) (heo : ∃ u, h'.get? e = some u)
    (new : ObjOk X.prog X.w (upd H x o) h' x o) : Inv X pins σ (upd H x o) { s with heap := h', toks := t' } := I.un (Un.write mu he k heo) (I.hok.write mu he k heo new)
theorem Inv.weak {σ' : List (Option V)} (I : Inv X pins σ H s) (hl : σ'.length = σ.length) (w : ∀ (i : Nat) v, σ'[i]? = some (some v) -> σ[i]? = some (some v)) : Inv X pins σ' H s :=
  ⟨I.ok, I.os, I.bare, I.base, let ⟨m, hn, hl'⟩ := I.loc; ⟨m, hn, fun i x v e1 e2 e3 => hl' i x v e1 (w i v e2) e3⟩, I.cell, I.free, I.freeC, I.pin, I.hok, hl.trans I.len⟩
theorem Inv.pins_of {pins' : List (Addr × Obj)} (I : Inv X pins σ H s) (h : ∀ p ∈ pins', s.heap.get? p.1 = some p.2 /\ H p.1 = none /\ p.1 ≠ X.env.locals /\ p.1 ∉ X.fs /\ ∀ v, p.2.data ≠ .cell v) : Inv X pins' σ H s :=
  ⟨I.ok, I.os, I.bare, I.base, I.loc, I.cell, I.free, I.freeC, fun p hp => (List.mem_append.mp hp).elim (fun z => I.pin p (List.mem_append_left _ z)) (h p), I.hok, I.len⟩
theorem nodup_ix {N : List Str} (hN : N.Nodup) {i j : Nat} {x : Str} (a : N[i]? = some x) (b : N[j]? = some x) : i = j := by
  obtain ⟨h1, e1⟩ := List.getElem?_eq_some_iff.mp a
  obtain ⟨h2, e2⟩ := List.getElem?_eq_some_iff.mp b
  exact (List.getElem_inj hN).mp (e1.trans e2.symm)
theorem store_ok2 {M : Model} {A : Around} {E : Value -> Shared -> Prop} {i : Nat} {x : Str} {v : V} {u : Value} {Q : Unit -> Shared -> Prop} (I : Inv X pins σ H s) (hN : X.N.Nodup) (hi : X.N[i]? = some x) (hx : Loc X.env.scope x) (r : RelV v u)
    (h : ∀ s', Inv X pins (σ.set i (some v)) H s' -> (∃ a, Heap.SameBut a s.heap s'.heap /\ (a = X.env.locals \/ X.env.cells.lookup x = some a)) -> Q () s') (hf : X.fn x = true \/ X.env.scope.names.lookup x = some .local := by first | exact .inl rfl | exact .inr rfl | assumption) : wpAny M A (storeName X.env x u) Q E s := by
  obtain ⟨m, hn, hl⟩ := id I.loc
  have hcls : (X.env.scope.kind == .class || (X.env.scope.kind == .module && X.env.locals != X.env.globals)) = false := by rw [I.ok.kind]; rfl
  have hiσ : i < σ.length := by rw [I.len]; exact (List.getElem?_eq_some_iff.mp hi).1
  have cne := I.cne
  have tracked : ∀ {a : Addr} {h' : Heap}, (∃ o, s.heap.get? a = some o /\ H a = none) -> Heap.SameBut a s.heap h' -> HOk X.prog X.w H h' := fun {a h'} ha hs b ob e => by
    obtain ⟨_, _, hfree⟩ := ha
    refine (I.hok b ob e).stay (fun c w' hc q => (hs.2 c ?_).trans q) (fun _ q => q) fun _ _ q => q
    rintro rfl
    rcases hc with rfl | hc
    · rw [hfree] at e; cases e
    · rw [hfree] at hc; cases hc
  rcases hx with hk | hk
  · refine wpAny_storeName_local hk hn (fun h' hn' hs => ?_) hcls
    obtain ⟨oL, _, _, hoL, _⟩ := id hn
    refine h _ ⟨I.ok, I.os, I.bare, ⟨fun b o e n hb hx => ?_, fun b o e n hb hx => ?_, I.base.free, fun b o e hx => ?_, I.base.tups, I.base.frzs, I.base.tbls⟩, ⟨_, hn', fun j y v' e1 e2 e3 => ?_⟩, fun y c e => ?_, I.free, I.freeC, fun p hp => ?_, tracked ⟨oL, hoL, I.free⟩ hs, by simpa using I.len⟩ ⟨_, hs, .inl rfl⟩
    · exact (hs.2 b (Nat.ne_of_lt (Nat.lt_of_lt_of_le (Heap.lt_size e) I.ok.above))).trans (I.base.keep b o e n hb hx)
    · obtain ⟨sl, e1⟩ := I.base.slot b o e n hb hx
      exact ⟨sl, (hs.2 b (Nat.ne_of_lt (Nat.lt_of_lt_of_le (Heap.lt_size e) I.ok.above))).trans e1⟩
    · obtain ⟨o', e1⟩ := I.base.there b o e hx
      exact ⟨o', (hs.2 b (Nat.ne_of_lt (Nat.lt_of_lt_of_le (Heap.lt_size e) I.ok.above))).trans e1⟩
    · by_cases hj : j = i
      · subst hj
        rw [hi] at e1; cases e1
        rw [List.getElem?_set_self hiσ] at e2
        cases e2
        exact ⟨u, r, .inl ⟨hk, by simp⟩⟩
      · rw [List.getElem?_set_ne (Ne.symm hj)] at e2
        obtain ⟨u', r', q⟩ := hl j y v' e1 e2 e3
        refine ⟨u', r', ?_⟩
        rcases q with ⟨k, e⟩ | ⟨k, c, e, z⟩
        · refine .inl ⟨k, ?_⟩
          have : y ≠ x := fun e => hj (nodup_ix hN e1 (e ▸ hi))
          simp [this, e]
        · exact .inr ⟨k, c, e, z.sameBut hs (cne y c e)⟩
    · obtain ⟨w', z⟩ := I.cell y c e
      exact ⟨w', z.sameBut hs (cne y c e)⟩
    · obtain ⟨e, n, ne, nf, d⟩ := I.pin p hp
      exact ⟨(hs.2 p.1 ne).trans e, n, ne, nf, d⟩
  · have hfn : X.fn x = true := by
      rcases hf with z | z
      · exact z
      · rw [z] at hk; cases hk
    obtain ⟨c, hc⟩ := I.ok.has x (.inl hk)
    obtain ⟨w', z⟩ := I.cell x c hc
    refine wpAny_storeName_cell I.ok.kind hk hc z (fun h' hc' hs => ?_)
    obtain ⟨oc, hoc, hocd⟩ := id z
    refine h { s with heap := h' } ⟨I.ok, I.os, I.bare, ⟨fun b o e n hb hx => ?_, fun b o e n hb hx => ?_, I.base.free, fun b o e hx => ?_, I.base.tups, I.base.frzs, I.base.tbls⟩, ⟨m, hn.sameBut hs (Ne.symm (cne x c hc)), fun j y v' e1 e2 e3 => ?_⟩, fun y c' e => ?_, I.free, I.freeC, fun p hp => ?_, tracked ⟨oc, hoc, I.freeC x c hc⟩ hs, by simpa using I.len⟩ ⟨c, hs, .inr hc⟩
    · exact (hs.2 b (Nat.ne_of_lt (Nat.lt_of_lt_of_le (Heap.lt_size e) (I.ok.cab x c hfn hc)))).trans (I.base.keep b o e n hb hx)
    · obtain ⟨sl, e1⟩ := I.base.slot b o e n hb hx
      exact ⟨sl, (hs.2 b (Nat.ne_of_lt (Nat.lt_of_lt_of_le (Heap.lt_size e) (I.ok.cab x c hfn hc)))).trans e1⟩
    · obtain ⟨o', e1⟩ := I.base.there b o e hx
      exact ⟨o', (hs.2 b (Nat.ne_of_lt (Nat.lt_of_lt_of_le (Heap.lt_size e) (I.ok.cab x c hfn hc)))).trans e1⟩
    · by_cases hj : j = i
      · subst hj
        rw [hi] at e1; cases e1
        rw [List.getElem?_set_self hiσ] at e2
        cases e2
        exact ⟨u, r, .inr ⟨.inl hk, c, hc, hc'⟩⟩
      · rw [List.getElem?_set_ne (Ne.symm hj)] at e2
        obtain ⟨u', r', q⟩ := hl j y v' e1 e2 e3
        refine ⟨u', r', ?_⟩
        rcases q with q | ⟨k, c', e, z'⟩
        · exact .inl q
        · refine .inr ⟨k, c', e, z'.sameBut hs ?_⟩
          rintro rfl
          exact hj (nodup_ix hN e1 (I.ok.inj _ _ _ e hc ▸ hi))
    · by_cases hcc : c' = c
      · subst hcc; exact ⟨_, hc'⟩
      · obtain ⟨w2, z2⟩ := I.cell y c' e
        exact ⟨w2, z2.sameBut hs hcc⟩
    · obtain ⟨e, n, ne, nf, d⟩ := I.pin p hp
      refine ⟨(hs.2 p.1 ?_).trans e, n, ne, nf, d⟩
      intro q
      rw [q, hoc] at e
      have q' : oc = p.2 := Option.some.inj e
      exact d w' (by rw [<- q']; exact hocd)
theorem store_ok {M : Model} {A : Around} {E : Value -> Shared -> Prop} {i : Nat} {x : Str} {v : V} {u : Value} {Q : Unit -> Shared -> Prop} (I : Inv X pins σ H s) (hN : X.N.Nodup) (hi : X.N[i]? = some x) (hx : Loc X.env.scope x) (r : RelV v u)
    (h : ∀ s', Inv X pins (σ.set i (some v)) H s' -> Q () s') (hf : X.fn x = true \/ X.env.scope.names.lookup x = some .local := by first | exact .inl rfl | exact .inr rfl | assumption) : wpAny M A (storeName X.env x u) Q E s :=
  store_ok2 I hN hi hx r (fun s' I' _ => h s' I') hf
theorem Inv.call' {s' : Shared} {ch : List Addr} (I : Inv X pins σ H s) (ho : s'.os = s.os) (u : Un (frs X.stack) ch H H' s.heap s'.heap) (hok : HOk X.prog X.w H' s'.heap) (hg : AllBare s'.gens)
    (hch : ∀ b ∈ ch, (b ∈ X.ex \/ X.s₀.heap.objs.size <= b) /\ b ≠ X.env.locals /\ (∀ x c, X.env.cells.lookup x = some c -> c ≠ b) /\ ∀ p ∈ X.pn ++ pins, p.1 ≠ b) : Inv X pins σ H' s' := by
  obtain ⟨h', g', d', t', o'⟩ := s'
  have e : o' = s.os := ho
  subst e
  exact I.call (g' := g') (t' := t') (d' := d') u hok hg hch
end
abbrev XK := Value -> Option Addr -> Hp -> Prop
abbrev St := List (Option V)
abbrev VK := V -> Hp -> Prop
abbrev TE := St -> Hp -> VK -> Prop
abbrev TT := St -> Hp -> (Bool -> Hp -> Prop) -> Prop
abbrev TA := St -> Hp -> (List V -> Hp -> Prop) -> Prop
structure Ends where
  nx : St -> Hp -> Prop
  rt : VK
  bk : St -> Hp -> Prop := fun _ _ => False
  ct : St -> Hp -> Prop := fun _ _ => False
abbrev TS := Ends -> St -> Hp -> Prop
def EP (X : Cx) (pins : List (Addr × Obj)) (σ : St) (Q : VK) (u : Value) (s' : Shared) : Prop := ∃ v H', Inv X pins σ H' s' /\ RelV v u /\ Q v H'
def TP (X : Cx) (pins : List (Addr × Obj)) (σ : St) (Q : Bool -> Hp -> Prop) (b : Bool) (s' : Shared) : Prop := ∃ H', Inv X pins σ H' s' /\ Q b H'
def AP (X : Cx) (pins : List (Addr × Obj)) (σ : St) (Q : List V -> Hp -> Prop) (us : List Value) (s' : Shared) : Prop := ∃ vs H', Inv X pins σ H' s' /\ Vals vs us /\ Q vs H'
def SP (X : Cx) (pins : List (Addr × Obj)) (D : Ends) (f : Flow) (s' : Shared) : Prop :=
  match f with
  | .next => ∃ σ' H', Inv X pins σ' H' s' /\ D.nx σ' H'
  | .brk => ∃ σ' H', Inv X pins σ' H' s' /\ D.bk σ' H'
  | .cont => ∃ σ' H', Inv X pins σ' H' s' /\ D.ct σ' H'
  | .ret u => ∃ v σ' H', Inv X pins σ' H' s' /\ RelV v u /\ D.rt v H'
def PE (X : Cx) (e : Expr) (t : TE) : Prop :=
  ∀ (pins : List (Addr × Obj)) (s : Shared) (σ : St) (H : Hp) (Q : VK), Inv X pins σ H s -> t σ H Q -> wpAny (model X.prog X.w) X.A (eval e X.env) (EP X pins σ Q) X.xe s
def PT (X : Cx) (e : Expr) (t : TT) : Prop :=
  ∀ (pins : List (Addr × Obj)) (s : Shared) (σ : St) (H : Hp) (Q : Bool -> Hp -> Prop), Inv X pins σ H s -> t σ H Q -> wpAny (model X.prog X.w) X.A (isTrue e X.env (eval e X.env)) (TP X pins σ Q) X.xe s
def PW (X : Cx) (e : Expr) (t : TT) : Prop :=
  ∀ (whole : Sem Value) (pins : List (Addr × Obj)) (s : Shared) (σ : St) (H : Hp) (Q : Bool -> Hp -> Prop), Inv X pins σ H s -> t σ H Q -> wpAny (model X.prog X.w) X.A (isTrue e X.env whole) (TP X pins σ Q) X.xe s
theorem PW.pt {X : Cx} {e : Expr} {t : TT} (h : PW X e t) : PT X e t := h _
def PA (X : Cx) (es : List Expr) (t : TA) : Prop :=
  ∀ (pos : Pos) (pins : List (Addr × Obj)) (s : Shared) (σ : St) (H : Hp) (Q : List V -> Hp -> Prop), Inv X pins σ H s -> t σ H Q -> wpAny (model X.prog X.w) X.A (spliced (backTo pos (starEach es X.env))) (AP X pins σ Q) X.xe s
def PS (X : Cx) (st : Stmt) (t : TS) : Prop :=
  ∀ (pins : List (Addr × Obj)) (s : Shared) (σ : St) (H : Hp) (D : Ends), Inv X pins σ H s -> t D σ H -> wpAny (model X.prog X.w) X.A (exec st X.env) (SP X pins D) X.xe s
def PSs (X : Cx) (st : List Stmt) (t : TS) : Prop :=
  ∀ (pins : List (Addr × Obj)) (s : Shared) (σ : St) (H : Hp) (D : Ends), Inv X pins σ H s -> t D σ H -> wpAny (model X.prog X.w) X.A (execs st X.env) (SP X pins D) X.xe s
theorem thn {α : Type} {t : Sem α} {Q Q' : α -> Shared -> Prop} {M : Model} {A : Around} {E : Value -> Shared -> Prop} {s : Shared} (h : wpAny M A t Q E s) (hQ : ∀ a s, Q a s -> Q' a s) : wpAny M A t Q' E s := wpAny_mono h hQ fun _ _ x => x
end L2
namespace L2
open PySem PySem.Spec PyProof.Rows
section
variable {X : Cx}
def tVar (i : Nat) : TE := fun σ H Q => ∃ v, σ[i]? = some (some v) /\ Q v H
def tC (v : V) : TE := fun _ H Q => Q v H
theorem pe_var {i : Nat} {x : Str} {pos : Pos} (hN : X.N[i]? = some x) (hv : Vis X.env.scope x) (hd : (x == ("__debug__" : Str)) = false := by decide) (hcd : (x == ("__classdict__" : Str)) = false := by decide) : PE X (.Name x pos) (tVar i) := by
  intro pins s σ H Q I h
  obtain ⟨v, e, h⟩ := h
  obtain ⟨m, hn, hl⟩ := I.loc
  obtain ⟨u, r, l⟩ := hl i x v hN e hv
  have fin : EP X pins σ Q u s := ⟨v, H, I, r, h⟩
  rcases l with ⟨hk, hm⟩ | ⟨hk, c, hc, hcell⟩
  · exact wpAny_Name (wpAny_loadName_local I.ok.kind hk hn hm fin) hd
  · rcases hk with hk | hk
    · exact wpAny_Name (wpAny_loadName_cell I.ok.kind hk hc hcell fin) hd
    · exact wpAny_Name (wpAny_loadName_free I.ok.kind hk hc hcell fin hcd) hd
theorem pe_int {i j pos} : PE X (.Constant (.int i) j pos) (tC (.int i)) := fun _ _ _ H _ I h => wpAny_Constant_int ⟨.int i, H, I.tok _, ⟨_, rfl⟩, h⟩
theorem pe_bl {b j pos} : PE X (.Constant (.bool b) j pos) (tC (.bl b)) := fun _ _ _ H _ I h => Constant_bool ⟨.bl b, H, I, rfl, h⟩
theorem pe_str {x j pos} : PE X (.Constant (.str x) j pos) (tC (.str x)) := fun _ _ _ H _ I h => Calls.Constant_str ⟨.str x, H, I.tok _, ⟨_, rfl⟩, h⟩
def Gl (X : Cx) (x : Str) : Prop := X.env.kindOf x = some .globalImplicit
theorem ld_glob {E : Value -> Shared -> Prop} {pins : List (Addr × Obj)} {s : Shared} {σ : St} {H : Hp} {x : Str} {u : Value} {pos : Pos} {Q : Value -> Shared -> Prop} (I : Inv X pins σ H s) (hg : Gl X x) (hm : X.mg x = some u) (h : Q u s)
    (hd : (x == ("__debug__" : Str)) = false := by decide) : wpAny (model X.prog X.w) X.A (eval (.Name x pos) X.env) Q E s :=
  Calls.Name_function_global I.ok.kind hg (Calls.loadGlobal_global (by rw [I.ok.glob]; exact I.mod.glob.keeps I.bk) hm h) hd
theorem ld_blt {E : Value -> Shared -> Prop} {pins : List (Addr × Obj)} {s : Shared} {σ : St} {H : Hp} {x : Str} {u : Value} {pos : Pos} {Q : Value -> Shared -> Prop} (I : Inv X pins σ H s) (hg : Gl X x) (hm : X.mg x = none) (hv : bootBuiltins x = some u) (h : Q u s)
    (hn : x ≠ "__name__" := by decide) (hd : (x == ("__debug__" : Str)) = false := by decide) : wpAny (model X.prog X.w) X.A (eval (.Name x pos) X.env) Q E s := by
  obtain ⟨mb, h1, h2⟩ := I.mod.blt
  exact Calls.Name_function_global I.ok.kind hg (Calls.loadGlobal_builtin (by rw [I.ok.glob]; exact I.mod.glob.keeps I.bk) hm (by rw [I.ok.blt]; exact h1.keeps I.bk) ((h2 x hn).trans hv) h) hd
theorem pe_glob {x : Str} {v : V} {u : Value} {pos : Pos} (hg : Gl X x) (hm : X.mg x = some u) (r : RelV v u) (hd : (x == ("__debug__" : Str)) = false := by decide) : PE X (.Name x pos) (tC v) :=
  fun _ _ _ H _ I h => ld_glob I hg hm ⟨v, H, I, r, h⟩ hd
theorem pe_bltn {x : Str} {v : V} {u : Value} {pos : Pos} (hg : Gl X x) (hm : X.mg x = none) (hv : bootBuiltins x = some u) (r : RelV v u) (hn : x ≠ "__name__" := by decide) (hd : (x == ("__debug__" : Str)) = false := by decide) : PE X (.Name x pos) (tC v) :=
  fun _ _ _ H _ I h => ld_blt I hg hm hv ⟨v, H, I, r, h⟩ hn hd
variable {a b : Expr} {ta tb : TE} {pos : Pos}
def tB (t : TE) : TT := fun σ H Q => t σ H fun x H1 => ∃ c, x = .bl c /\ Q c H1
theorem pt_val {e : Expr} {t : TE} (h : PE X e t) (he : ∀ whole, isTrue e X.env whole = (do let v <- whole; standAt e.pos; holding [v] (truthy v)) := by intro _; rfl) : PT X e (tB t) := by
  intro pins s σ H Q I hw
  refine isTrue_plain (thn (h pins s σ H _ I hw) fun v s1 ⟨x, H1, I1, r1, q1⟩ => ?_) (he _)
  obtain ⟨d, rfl, q⟩ := q1
  cases r1
  exact wpAny_truthy_bool ⟨H1, I1, q⟩
variable {tA tB' : TT} {rest : List Expr}
def tAnd (t u : TT) : TT := fun σ H Q => t σ H fun c H1 => if c = true then u σ H1 Q else Q false H1
def tOr (t u : TT) : TT := fun σ H Q => t σ H fun c H1 => if c = true then Q true H1 else u σ H1 Q
def tNot (t : TT) : TT := fun σ H Q => t σ H fun c H1 => Q (!c) H1
theorem pw_and1 (ha : PT X a tA) : PW X (.BoolOp .And [a] pos) tA := by
  intro wh pins s σ H Q I h
  refine isTrue_and (thn (ha pins s σ H Q I h) fun c s1 e => ?_)
  cases c with
  | true => exact isTrue_and_nil e
  | false => exact e
theorem pw_or1 (ha : PT X a tA) : PW X (.BoolOp .Or [a] pos) tA := by
  intro wh pins s σ H Q I h
  refine isTrue_or (thn (ha pins s σ H Q I h) fun c s1 e => ?_)
  cases c with
  | false => exact isTrue_or_nil e
  | true => exact e
theorem pw_and (ha : PT X a tA) (hb : PW X (.BoolOp .And (b :: rest) pos) tB') : PW X (.BoolOp .And (a :: b :: rest) pos) (tAnd tA tB') := by
  intro wh pins s σ H Q I h
  refine isTrue_and (thn (ha pins s σ H _ I h) fun c s1 ⟨H1, I1, q1⟩ => ?_)
  cases c with
  | true => exact hb wh pins s1 σ H1 Q I1 q1
  | false => exact ⟨H1, I1, q1⟩
theorem pw_or (ha : PT X a tA) (hb : PW X (.BoolOp .Or (b :: rest) pos) tB') : PW X (.BoolOp .Or (a :: b :: rest) pos) (tOr tA tB') := by
  intro wh pins s σ H Q I h
  refine isTrue_or (thn (ha pins s σ H _ I h) fun c s1 ⟨H1, I1, q1⟩ => ?_)
  cases c with
  | true => exact ⟨H1, I1, q1⟩
  | false => exact hb wh pins s1 σ H1 Q I1 q1
theorem pt_not (ha : PT X a tA) : PT X (.UnaryOp .Not a pos) (tNot tA) := by
  intro pins s σ H Q I h
  exact isTrue_not (ha pins s σ H (fun c H1 => Q (!c) H1) I h)
def tAndV (ta tb : TE) : TE := fun σ H Q => ta σ H fun x H1 => ∃ c, x = .bl c /\ if c = true then tb σ H1 Q else Q (.bl false) H1
def tNotV (ta : TE) : TE := fun σ H Q => ta σ H fun x H1 => ∃ c, x = .bl c /\ Q (.bl (!c)) H1
theorem pe_one {op} {t : TE} (h : PE X a t) : PE X (.BoolOp op [a] pos) t := fun pins s σ H Q I hw => BoolOp_one (h pins s σ H Q I hw)
theorem pe_and (ha : PE X a ta) (hb : PE X (.BoolOp .And (b :: rest) pos) tb) : PE X (.BoolOp .And (a :: b :: rest) pos) (tAndV ta tb) := by
  intro pins s σ H Q I h
  refine BoolOp_and (thn (ha pins s σ H _ I h) fun v s1 ⟨x, H1, I1, r1, q1⟩ => ?_)
  obtain ⟨c, rfl, q1⟩ := q1
  cases r1
  refine wpAny_truthy_bool ?_
  cases c with
  | true => exact hb pins s1 σ H1 Q I1 q1
  | false => exact ⟨.bl false, H1, I1, rfl, q1⟩
theorem pe_not (ha : PE X a ta) : PE X (.UnaryOp .Not a pos) (tNotV ta) := by
  intro pins s σ H Q I h
  refine UnaryOp_ (thn (ha pins s σ H _ I h) fun v s1 ⟨x, H1, I1, r1, q1⟩ => ?_)
  obtain ⟨c, rfl, q1⟩ := q1
  cases r1
  exact not_of (wpAny_truthy_bool ⟨.bl (!c), H1, I1, rfl, q1⟩)
def tIf (t : TT) (ta tb : TE) : TE := fun σ H Q => t σ H fun c H1 => if c = true then ta σ H1 Q else tb σ H1 Q
theorem pe_ifExp {c : Expr} (hc : PT X c tA) (ha : PE X a ta) (hb : PE X b tb) : PE X (.IfExp c a b pos) (tIf tA ta tb) := by
  intro pins s σ H Q I h
  refine wpAny_IfExp (thn (hc pins s σ H _ I h) fun d s1 ⟨H1, I1, q1⟩ => ?_)
  cases d with
  | true => exact ha pins s1 σ H1 Q I1 q1
  | false => exact hb pins s1 σ H1 Q I1 q1
end
end L2
namespace L2
open PySem PySem.Spec PyProof.Rows
def SqL (K : PySem.W.Frag) (H : Hp) (a : Addr) (xs : List V) : Prop :=
  Rd H a (.lst xs) \/
    ∃ (o : Obj) (its : Array Value) (n : Nat), K.lookup a = some o /\ o.cls = .type "list" /\ o.dict = none /\ o.data = .seq its n /\ its.size <= sizeLine /\ Vals xs its.toList
def SqT (K : PySem.W.Frag) (H : Hp) (a : Addr) (xs : List V) : Prop :=
  Rd H a (.tup xs) \/
    ∃ (o : Obj) (its : Array Value) (n : Nat), K.lookup a = some o /\ o.cls = .type "tuple" /\ o.data = .seq its n /\ its.size <= sizeLine /\ Vals xs its.toList
def absV : Value -> Option V
  | .none => some .non
  | .bool b => some (.bl b)
  | .int i _ => some (.int i)
  | .str x _ => some (.str x)
  | .bytes b _ => some (.byt b)
  | .float b _ => some (.flt b)
  | .ref a => some (.ref a)
  | .type n => some (.ty n)
  | _ => none
theorem RelV.abs {x : V} {u : Value} (r : RelV x u) : absV u = some x := by
  cases x with
  | non => cases r; rfl
  | bl _ => cases r; rfl
  | int _ => obtain ⟨t, rfl⟩ := r; rfl
  | str _ => obtain ⟨t, rfl⟩ := r; rfl
  | byt _ => obtain ⟨t, rfl⟩ := r; rfl
  | flt _ => obtain ⟨t, rfl⟩ := r; rfl
  | ref _ => cases r; rfl
  | ty _ => cases r; rfl
theorem RelV.inj {x y : V} {u : Value} (r : RelV x u) (q : RelV y u) : x = y := Option.some.inj (r.abs.symm.trans q.abs)
theorem Vals.inj : ∀ {xs ys : List V} {us : List Value}, Vals xs us -> Vals ys us -> xs = ys
  | _, _, _, .nil, .nil => rfl
  | _, _, _, .cons r t, .cons r' t' => by rw [r.inj r', Vals.inj t t']
section
variable {X : Cx} {pins : List (Addr × Obj)} {σ : St} {H : Hp} {s : Shared} {a : Addr} {xs ys : List V}
theorem SqL.of {K : PySem.W.Frag} (h : H a = some (.lst xs)) : SqL K H a xs := .inl (.inl h)
theorem SqT.of {K : PySem.W.Frag} (h : H a = some (.tup xs)) : SqT K H a xs := .inl (.inl h)
theorem Inv.list (I : Inv X pins σ H s) (h : SqL X.K H a xs) : ∃ its : List Value, Vals xs its /\ PlainL s.heap a its.toArray /\ xs.length <= sizeLine := by
  rcases h with h | ⟨o, its, n, hk, hc, hd, hs, hz, r⟩
  · obtain ⟨z, its, n, r, e⟩ := h.ok I.hok
    exact ⟨its, r, ⟨_, n, e, rfl, rfl, rfl⟩, z⟩
  · refine ⟨its.toList, r, ⟨o, n, I.kIn a o hk, hc, hd, by simpa using hs⟩, ?_⟩
    have e := r.length
    simp only [Array.length_toList] at e
    omega
theorem Inv.tuple (I : Inv X pins σ H s) (h : SqT X.K H a xs) : ∃ its : List Value, Vals xs its /\ IsTup s.heap a its.toArray /\ xs.length <= sizeLine := by
  rcases h with h | ⟨o, its, n, hk, hc, hs, hz, r⟩
  · obtain ⟨z, its, r, p⟩ := h.ok I.hok
    exact ⟨its, r, p, z⟩
  · refine ⟨its.toList, r, ⟨o, I.kIn a o hk, hc, n, by simpa using hs⟩, ?_⟩
    have e := r.length
    simp only [Array.length_toList] at e
    omega
theorem Inv.list_inj (I : Inv X pins σ H s) (h : SqL X.K H a xs) (h' : SqL X.K H a ys) : xs = ys := by
  obtain ⟨its, r, ⟨o, n, e, _, _, d⟩, _⟩ := I.list h
  obtain ⟨its', r', ⟨o', n', e', _, _, d'⟩, _⟩ := I.list h'
  rw [e] at e'; cases e'
  rw [d] at d'
  injection d' with d1 _
  have : its = its' := by simpa using congrArg Array.toList d1
  subst this
  exact r.inj r'
theorem Inv.tuple_inj (I : Inv X pins σ H s) (h : SqT X.K H a xs) (h' : SqT X.K H a ys) : xs = ys := by
  obtain ⟨its, r, ⟨o, e, _, n, d⟩, _⟩ := I.tuple h
  obtain ⟨its', r', ⟨o', e', _, n', d'⟩, _⟩ := I.tuple h'
  rw [e] at e'; cases e'
  rw [d] at d'
  injection d' with d1 _
  have : its = its' := by simpa using congrArg Array.toList d1
  subst this
  exact r.inj r'
end
abbrev Cx.wish (X : Cx) (E : Value -> Shared -> Prop) : Cx := { X with xe := E }
abbrev Cx.nox (X : Cx) : Cx := X.wish fun _ _ => False
theorem Cx.Ok.wish {X : Cx} (ok : X.Ok) (E : Value -> Shared -> Prop) : (X.wish E).Ok :=
  ⟨ok.mod, ok.kind, ok.glob, ok.blt, ok.above, ok.inj, ok.has, ok.cab, ok.hd, ok.frames, ok.stk, ok.exf, ok.bs, ok.bsz, ok.noex, ok.exfs, ok.funs, ok.frf⟩
theorem Cx.Ok.unwish {X : Cx} {E : Value -> Shared -> Prop} (ok : (X.wish E).Ok) : X.Ok :=
  ⟨ok.mod, ok.kind, ok.glob, ok.blt, ok.above, ok.inj, ok.has, ok.cab, ok.hd, ok.frames, ok.stk, ok.exf, ok.bs, ok.bsz, ok.noex, ok.exfs, ok.funs, ok.frf⟩
section
variable {X : Cx} {pins : List (Addr × Obj)} {σ : St} {H : Hp} {s : Shared} {E : Value -> Shared -> Prop}
theorem Inv.wish (I : Inv X pins σ H s) (E : Value -> Shared -> Prop) : Inv (X.wish E) pins σ H s := ⟨I.ok.wish E, I.os, I.bare, I.base, I.loc, I.cell, I.free, I.freeC, I.pin, I.hok, I.len⟩
theorem Inv.unwish (I : Inv (X.wish E) pins σ H s) : Inv X pins σ H s := ⟨I.ok.unwish, I.os, I.bare, I.base, I.loc, I.cell, I.free, I.freeC, I.pin, I.hok, I.len⟩
theorem SP.unwish {D : Ends} {f : Flow} {s' : Shared} (h : SP (X.wish E) pins D f s') : SP X pins D f s' := by
  cases f with
  | next => obtain ⟨σ', H', I, q⟩ := h; exact ⟨σ', H', I.unwish, q⟩
  | brk => obtain ⟨σ', H', I, q⟩ := h; exact ⟨σ', H', I.unwish, q⟩
  | cont => obtain ⟨σ', H', I, q⟩ := h; exact ⟨σ', H', I.unwish, q⟩
  | ret u => obtain ⟨v, σ', H', I, r, q⟩ := h; exact ⟨v, σ', H', I.unwish, r, q⟩
theorem PSs.nox {st : List Stmt} {t : TS} (h : PSs X.nox st t) : PSs X st t := fun pins s σ H D I hw =>
  wpAny_mono (h pins s σ H D (I.wish _) hw) (fun _ _ q => q.unwish) fun _ _ z => False.elim z
end
section
variable {X : Cx} {st : Stmt} {rest : List Stmt} {t u : TS} {e : Expr} {te : TE} {pos : Pos}
def tNext : TS := fun D σ H => D.nx σ H
def tSeq (t u : TS) : TS := fun D σ H => t { D with nx := u D } σ H
theorem pss_nil : PSs X [] tNext := fun _ _ σ H _ I h => wpAny_execs_nil ⟨σ, H, I, h⟩
theorem pss_cons (h1 : PS X st t) (h2 : PSs X rest u) : PSs X (st :: rest) (tSeq t u) := by
  intro pins s σ H D I h
  refine wpAny_execs_cons (thn (h1 pins s σ H { D with nx := u D } I h) fun f s1 q => ?_)
  cases f with
  | next =>
    obtain ⟨σ', H', I', q⟩ := q
    exact h2 pins s1 σ' H' D I' q
  | ret v => exact q
  | brk => exact q
  | cont => exact q
theorem pss_one (h1 : PS X st t) : PSs X [st] t := by
  intro pins s σ H D I h
  refine wpAny_execs_cons (thn (h1 pins s σ H D I h) fun f s1 q => ?_)
  cases f with
  | next => exact wpAny_execs_nil q
  | ret v => exact q
  | brk => exact q
  | cont => exact q
theorem Inv.quiet {pins : List (Addr × Obj)} {σ : St} {H : Hp} {s : Shared} (I : Inv X pins σ H s) : interactive X.env = false := by simp [interactive, I.ok.kind]
def tDrop (te : TE) : TS := fun D σ H => te σ H fun _ H1 => D.nx σ H1
theorem ps_expr (he : PE X e te) (hs : swapsWith e none pos.line X.env = pure false := by rfl) : PS X (.Expr e pos) (tDrop te) := by
  intro pins s σ H D I h
  exact wpAny_Expr_any (thn (he pins s σ H _ I h) fun v s1 ⟨x, H1, I1, r1, q1⟩ => ⟨σ, H1, I1, q1⟩) I.quiet hs
def tRet (te : TE) : TS := fun D σ H => te σ H D.rt
theorem ps_ret (he : PE X e te) : PS X (.Return (some e) pos) (tRet te) := by
  intro pins s σ H D I h
  exact wpAny_Return_some (thn (he pins s σ H _ I h) fun v s1 ⟨x, H1, I1, r1, q1⟩ => ⟨x, σ, H1, I1, r1, q1⟩)
def tIfS (c : TT) (t u : TS) : TS := fun D σ H => c σ H fun b H1 => if b = true then t D σ H1 else u D σ H1
theorem ps_if {c : Expr} {a b : List Stmt} {tc : TT} (hc : PT X c tc) (ha : PSs X a t) (hb : PSs X b u) : PS X (.If c a b pos) (tIfS tc t u) := by
  intro pins s σ H D I h
  refine wpAny_If (thn (hc pins s σ H _ I h) fun d s1 ⟨H1, I1, q1⟩ => ?_)
  cases d with
  | true => exact ha pins s1 σ H1 D I1 q1
  | false => exact hb pins s1 σ H1 D I1 q1
def tNever : TS := fun _ _ _ => False
theorem ps_never : PS X st tNever := fun _ _ _ _ _ _ h => h.elim
theorem pss_never {sts : List Stmt} : PSs X sts tNever := fun _ _ _ _ _ _ h => h.elim
end
abbrev TG := V -> St -> Hp -> (St -> Hp -> Prop) -> Prop
abbrev TGs := List V -> St -> Hp -> (St -> Hp -> Prop) -> Prop
def PG (X : Cx) (target : Expr) (t : TG) : Prop :=
  ∀ (pins : List (Addr × Obj)) (s : Shared) (σ : St) (H : Hp) (v : V) (u : Value) (Q : St -> Hp -> Prop), Inv X pins σ H s -> RelV v u -> t v σ H Q ->
    wpAny (model X.prog X.w) X.A (assign target X.env u) (fun _ s' => ∃ σ' H', Inv X pins σ' H' s' /\ Q σ' H') X.xe s
def PGs (X : Cx) (ts : List Expr) (t : TGs) : Prop :=
  ∀ (pins : List (Addr × Obj)) (s : Shared) (σ : St) (H : Hp) (vs : List V) (us : List Value) (Q : St -> Hp -> Prop), Inv X pins σ H s -> Vals vs us -> t vs σ H Q ->
    wpAny (model X.prog X.w) X.A (assignInOrder ((assignEach ts X.env).map (·.2)) us) (fun _ s' => ∃ σ' H', Inv X pins σ' H' s' /\ Q σ' H') X.xe s
abbrev TSet := V -> V -> V -> Hp -> (Hp -> Prop) -> Prop
def PSet (X : Cx) (t : TSet) : Prop :=
  ∀ (pins : List (Addr × Obj)) (s : Shared) (σ : St) (H : Hp) (o i v : V) (ov iv u : Value) (Q : Hp -> Prop), Inv X pins σ H s -> RelV o ov -> RelV i iv -> RelV v u -> t o i v H Q ->
    wpAny (model X.prog X.w) X.A (setItem ov iv u) (fun _ s' => ∃ H', Inv X pins σ H' s' /\ Q H') X.xe s
section
variable {X : Cx} {pos : Pos}
def gName (i : Nat) : TG := fun v σ H Q => Q (σ.set i (some v)) H
theorem pg_name {i : Nat} {x : Str} (hN : X.N.Nodup) (hi : X.N[i]? = some x) (hx : Loc X.env.scope x) (hf : X.fn x = true \/ X.env.scope.names.lookup x = some .local := by first | exact .inl rfl | exact .inr rfl | assumption) : PG X (.Name x pos) (gName i) := by
  intro pins s σ H v u Q I r h
  exact wpAny_assign_Name (store_ok I hN hi hx r (fun s' I' => ⟨_, H, I', h⟩) hf)
def gNil : TGs := fun vs σ H Q => vs = [] /\ Q σ H
def gCons (t : TG) (u : TGs) : TGs := fun vs σ H Q => ∃ v r, vs = v :: r /\ t v σ H fun σ' H' => u r σ' H' Q
theorem pgs_nil : PGs X [] gNil := by
  intro pins s σ H vs us Q I r h
  obtain ⟨e, h⟩ := h
  subst e
  cases r
  exact assignInOrder_nil ⟨σ, H, I, h⟩
theorem pgs_cons {e : Expr} {es : List Expr} {t : TG} {u : TGs} (h1 : PG X e t) (h2 : PGs X es u)
    (hs : (assignEach (e :: es) X.env).map (·.2) = assign e X.env :: (assignEach es X.env).map (·.2) := by rfl) : PGs X (e :: es) (gCons t u) := by
  intro pins s σ H vs us Q I r h
  obtain ⟨v, vr, e1, h⟩ := h
  subst e1
  cases r with
  | cons r rr =>
    rw [hs]
    refine assignInOrder_cons (thn (h1 pins s σ H _ _ _ I r h) fun _ s1 ⟨σ1, H1, I1, q1⟩ => ?_)
    exact h2 pins s1 σ1 H1 _ _ Q I1 rr q1
def gTup (K : PySem.W.Frag) (n : Nat) (t : TGs) : TG := fun v σ H Q => ∃ a xs, v = .ref a /\ SqT K H a xs /\ xs.length = n /\ t xs σ H Q
theorem pg_tup {es : List Expr} {k : Nat} {t : TGs} {n : Nat} (hc : X.calm = true) (h : PGs X es t)
    (hn : (assignEach es X.env).length = n := by rfl) (hst : (assignEach es X.env).findIdx? (·.1) = none := by rfl) : PG X (.Tuple es k pos) (gTup X.K n t) := by
  intro pins s σ H v u Q I r hw
  obtain ⟨a, xs, e1, hq, hl, hw⟩ := hw
  subst e1
  cases r
  obtain ⟨its, rv, ht, hz⟩ := I.tuple hq
  refine assign_Tuple_tuple (I.ok.hd hc) ht (by simp [hn, <- hl, rv.length]) hst fun h' hx => ?_
  have I1 : Inv X pins σ H { s with heap := h' } := I.kept (t' := s.toks) fun b o e => hx b o (Nat.ne_of_lt (Heap.lt_size e)) e
  exact h pins _ σ H xs _ Q I1 (by simpa using rv) hw
def gSub (to ti : TE) (t : TSet) : TG := fun v σ H Q => to σ H fun o H1 => ti σ H1 fun i H2 => t o i v H2 fun H3 => Q σ H3
theorem pg_sub {o i : Expr} {to ti : TE} {t : TSet} (ho : PE X o to) (hi : PE X i ti) (hs : PSet X t)
    (ha : ∀ v, assign (.Subscript o i pos) X.env v = (do
      let ov <- holding [v] (eval o X.env)
      let iv <- holding [v, ov] (eval i X.env)
      standAt pos
      holding [v, ov, iv] (setItem ov iv v)
      release [v, ov, iv] []) := by intro _; rfl) : PG X (.Subscript o i pos) (gSub to ti t) := by
  intro pins s σ H v u Q I r h
  rw [ha]
  refine wpAny_bind (wpAny_holding (thn (ho pins s σ H _ I h) fun ov s1 ⟨x, H1, I1, r1, q1⟩ => ?_))
  refine wpAny_bind (wpAny_holding (thn (hi pins s1 σ H1 _ I1 q1) fun iv s2 ⟨y, H2, I2, r2, q2⟩ => ?_))
  refine wpAny_bind (wpAny_standAt (wpAny_bind (wpAny_holding (thn (hs pins s2 σ H2 x y v ov iv u _ I2 r1 r2 r q2) fun _ s3 ⟨H3, I3, q3⟩ => ?_))))
  exact wpAny_release ⟨σ, H3, I3, q3⟩
def tAsg (te : TE) (g : TG) : TS := fun D σ H => te σ H fun x H1 => g x σ H1 D.nx
theorem ps_asg {tg e : Expr} {te : TE} {g : TG} (he : PE X e te) (hg : PG X tg g) (hs : swapsWithSole [tg] e pos.line X.env = pure false := by rfl) (hw : swappedStores [tg] e X.env = pure none := by rfl)
    (h1 : (assignEach [tg] X.env).map (·.2) = [assign tg X.env] := by rfl) : PS X (.Assign [tg] e pos) (tAsg te g) := by
  intro pins s σ H D I h
  refine wpAny_Assign_stores (thn (he pins s σ H _ I h) fun v s1 ⟨x, H1, I1, r1, q1⟩ => ?_) hs hw
  rw [h1]
  exact thn (hg pins s1 σ H1 x v _ I1 r1 q1) fun _ s2 q => q
theorem ps_set {i : Nat} {x : Str} {e : Expr} {te : TE} {pos' : Pos} (hN : X.N.Nodup) (hi : X.N[i]? = some x) (hx : Loc X.env.scope x) (he : PE X e te) (hs : swapsWith e (some (.Name x pos')) pos.line X.env = pure false := by rfl) (hf : X.fn x = true \/ X.env.scope.names.lookup x = some .local := by first | exact .inl rfl | exact .inr rfl | assumption) :
    PS X (.Assign [.Name x pos'] e pos) (tAsg te (gName i)) := by
  intro pins s σ H D I h
  refine wpAny_Assign_Name (thn (he pins s σ H _ I h) fun v s1 ⟨y, H1, I1, r1, q1⟩ => ?_) hs
  exact store_ok I1 hN hi hx r1 (fun s2 I2 => ⟨_, H1, I2, q1⟩) hf
end
section
variable {X : Cx} {pos : Pos}
def tWhile (c : TT) (tb : TS) : TS := fun D σ H => ∃ W : Nat -> St -> Hp -> Prop, (∃ m, W m σ H) /\ ∀ m σ H, W m σ H ->
  c σ H fun b H1 => if b = true then ∃ N : St -> Hp -> Prop, (∀ σ' H', N σ' H' -> ∃ m', m' < m /\ W m' σ' H') /\ tb { D with nx := N, ct := N, bk := D.nx } σ H1 else D.nx σ H1
theorem ps_while {c : Expr} {body : List Stmt} {tc : TT} {tb : TS} (hp : PassesOwn (model X.prog X.w) X.A X.env X.xe) (hc : PT X c tc) (hb : PSs X body tb) : PS X (.While c body [] pos) (tWhile tc tb) := by
  intro pins s σ H D I h
  obtain ⟨W, ⟨m0, w0⟩, turn⟩ := h
  refine wpAny_While (codeAny_whileLoop (fun n s' => ∃ σ' H', Inv X pins σ' H' s' /\ W n σ' H') ?_ m0 ⟨σ, H, I, w0⟩)
  rintro n s1 ⟨σ1, H1, I1, w1⟩
  refine wpAny_passesOwn hp (thn (hc pins s1 σ1 H1 _ I1 (turn n σ1 H1 w1)) fun b s2 ⟨H2, I2, q2⟩ => ?_)
  cases b with
  | true =>
    obtain ⟨N, hN, q2⟩ := q2
    rw [if_pos rfl]
    refine wpAny_passesOwn hp (thn (hb pins s2 σ1 H2 _ I2 q2) fun f s3 q3 => ?_)
    cases f with
    | next =>
      obtain ⟨σ3, H3, I3, n3⟩ := q3
      obtain ⟨m', hm, w3⟩ := hN σ3 H3 n3
      exact ⟨m', hm, σ3, H3, I3, w3⟩
    | cont =>
      obtain ⟨σ3, H3, I3, n3⟩ := q3
      obtain ⟨m', hm, w3⟩ := hN σ3 H3 n3
      exact ⟨m', hm, σ3, H3, I3, w3⟩
    | brk => exact q3
    | ret v => exact q3
  | false =>
    rw [if_neg Bool.false_ne_true]
    exact wpAny_execs_nil ⟨σ1, H2, I2, q2⟩
end
structure It where
  go : Nat -> Hp -> Prop
  yld : Nat -> Hp -> V -> Hp -> Prop
  stop : Nat -> Hp -> Prop
def FpOk (X : Cx) (pins : List (Addr × Obj)) (H : Hp) (b : Addr) : Prop :=
  H b = none /\ b ≠ X.env.locals /\ b ∉ X.fs /\ (b ∈ X.ex \/ X.s₀.heap.objs.size <= b) /\ (∀ x c, X.env.cells.lookup x = some c -> c ≠ b) /\ ∀ p ∈ X.pn ++ pins, p.1 ≠ b
theorem Inv.fpOk {X : Cx} {pins : List (Addr × Obj)} {σ : St} {H H' : Hp} {s : Shared} {b : Addr} (I : Inv X pins σ H s) (hb : s.heap.objs.size <= b) (hn : H' b = none) : FpOk X pins H' b := by
  refine ⟨hn, Nat.ne_of_gt (Nat.lt_of_lt_of_le I.lt hb), I.nofs hb, .inr (Nat.le_trans I.sz hb), fun x c e z => ?_, fun p hp z => ?_⟩
  · obtain ⟨v, q⟩ := I.cell x c e
    exact absurd (Nat.lt_of_lt_of_le q.lt (by rw [z]; exact hb)) (Nat.lt_irrefl _)
  · exact absurd (Nat.lt_of_lt_of_le (Heap.lt_size (I.pin p hp).1) (by rw [z]; exact hb)) (Nat.lt_irrefl _)
structure Turn (P : Program) (w : World) (K : PySem.W.Frag) (tg : Expr) (J : It) (fp : List Addr) (it : Addr) (tn : Nat -> Heap -> Prop) : Prop where
  mem : it ∈ fp
  obj : ∀ i h, tn i h -> ∀ b ∈ fp, ∃ o, h.get? b = some o /\ ∀ v, o.data ≠ .cell v
  keep : ∀ i h h', tn i h -> (∀ b ∈ fp, ∀ o, h.get? b = some o -> h'.get? b = some o) -> tn i h'
  item : ∀ (X : Cx), X.prog = P -> X.w = w -> X.K = K -> X.calm = true -> ∀ (i : Nat) (pins : List (Addr × Obj)) (s : Shared) (σ : St) (H : Hp) (E : Value -> Shared -> Prop), Inv X pins σ H s -> (∀ b ∈ fp, FpOk X pins H b) -> tn i s.heap -> J.go i H ->
    wpAny (model P w) X.A (pyNext (.ref it)) (fun r s1 => ∃ u, r = some u /\
      wpAny (model P w) X.A (letOwnedTupleGo tg (.ref it) u) (fun _ s2 => ∃ x H', Inv X pins σ H' s2 /\ RelV x u /\ J.yld i H x H' /\ tn (i + 1) s2.heap /\ ∀ b ∈ fp, H' b = none) E s1) E s
  done : ∀ (X : Cx), X.prog = P -> X.w = w -> X.K = K -> X.calm = true -> ∀ (i : Nat) (pins : List (Addr × Obj)) (s : Shared) (σ : St) (H : Hp) (E : Value -> Shared -> Prop), Inv X pins σ H s -> (∀ b ∈ fp, FpOk X pins H b) -> tn i s.heap -> J.stop i H ->
    wpAny (model P w) X.A (pyNext (.ref it)) (fun r s1 => r = none /\ Inv X pins σ H s1) E s
  self : ∀ (A : Around) (i : Nat) (s : Shared) (Q : Value -> Shared -> Prop) (E : Value -> Shared -> Prop), tn i s.heap -> Q (.ref it) s -> wpAny (model P w) A (pyIter (.ref it)) Q E s
abbrev TI := St -> Hp -> (It -> Hp -> Prop) -> Prop
def PIE (X : Cx) (pins : List (Addr × Obj)) (σ : St) (tg : Expr) (R : It -> Hp -> Prop) (itv : Value) (s2 : Shared) : Prop :=
  ∃ (it : Addr) (fp : List Addr) (tn : Nat -> Heap -> Prop) (J : It) (H' : Hp), itv = .ref it /\ Inv X pins σ H' s2 /\ Turn X.prog X.w X.K tg J fp it tn /\ tn 0 s2.heap /\ (∀ b ∈ fp, FpOk X pins H' b) /\ R J H'
def PI (X : Cx) (tg iter : Expr) (wi : TI) : Prop :=
  ∀ (pins : List (Addr × Obj)) (s : Shared) (σ : St) (H : Hp) (R : It -> Hp -> Prop), Inv X pins σ H s -> wi σ H R ->
    wpAny (model X.prog X.w) X.A (eval iter X.env) (fun v s1 => wpAny (model X.prog X.w) X.A (pyIter v) (PIE X pins σ tg R) X.xe s1) X.xe s
theorem go_of {M : Model} {A : Around} {E : Value -> Shared -> Prop} {s : Shared} {tg : Expr} {it : Addr} {u : Value} {o : Obj} {n : String} {vs : Array Value} {Q : Unit -> Shared -> Prop} (ho : s.heap.get? it = some o) (hc : o.cls = .type n) (hd : o.data = .fields vs)
    (hn : ["enumerate", "zip", "dict_itemiterator", "dict_reverseitemiterator", "odict_iterator", "itertools.zip_longest", "itertools.pairwise"].contains n = false) (hQ : Q () s) : wpAny M A (letOwnedTupleGo tg (.ref it) u) Q E s := by
  unfold letOwnedTupleGo
  cases tg <;> first
    | exact wpAny_pure hQ
    | (cases u <;> first
        | exact wpAny_pure hQ
        | (refine wpAny_bind (wpAny_load ho ?_)
           rw [hc, hd]
           show wpAny M A (if (["enumerate", "zip", "dict_itemiterator", "dict_reverseitemiterator", "odict_iterator", "itertools.zip_longest", "itertools.pairwise"].contains n && vs[0]? == some (rawInt _)) = true then _ else _) Q E s
           rw [if_neg (by intro h; rw [hn, Bool.false_and] at h; cases h)]
           exact wpAny_pure hQ))
def Itl (K : PySem.W.Frag) (a : Addr) : It :=
  ⟨fun i H => ∃ xs x, SqL K H a xs /\ xs[i]? = some x, fun i H x H' => H' = H /\ ∀ xs, SqL K H a xs -> xs[i]? = some x, fun i H => ∃ xs, SqL K H a xs /\ xs.length <= i⟩
def Itt (K : PySem.W.Frag) (a : Addr) : It :=
  ⟨fun i H => ∃ xs x, SqT K H a xs /\ xs[i]? = some x, fun i H x H' => H' = H /\ ∀ xs, SqT K H a xs -> xs[i]? = some x, fun i H => ∃ xs, SqT K H a xs /\ xs.length <= i⟩
def Itr (lo : Int) (n : Nat) : It := ⟨fun i _ => i < n, fun i H x H' => H' = H /\ x = .int (lo + i), fun i _ => n <= i⟩
theorem turn_list {P : Program} {w : World} {K : PySem.W.Frag} {tg : Expr} (a it : Addr) : Turn P w K tg (Itl K a) [it] it (fun i h => h.IsListIter it a i) where
  mem := by simp
  obj := fun i h st b hb => by
    have e : b = it := by simpa using hb
    subst e
    obtain ⟨o, e, c, d⟩ := st
    exact ⟨o, e, fun v z => by rw [d] at z; cases z⟩
  keep := fun i h h' st k => st.at fun o e => k it (by simp) o e
  item := by
    intro X hP hw hK hc i pins s σ H E I hf st hg
    subst hP hw hK
    obtain ⟨xs, x, hq, hx⟩ := hg
    obtain ⟨its, rv, p, hz⟩ := I.list hq
    obtain ⟨u, hu, ru⟩ := rv.get hx
    obtain ⟨f0, f1, f2, f3, f4, f5⟩ := hf it (by simp)
    refine wpAny_pyNext_list_item st p.isList (x := u) (by simpa using hu) fun h' st' sb => ?_
    have I1 : Inv X pins σ H { s with heap := h' } := I.turned (t' := s.toks) (fun b o hb e => (sb.2 b hb).trans e) f0 f1 f3 f4 f5
    obtain ⟨o, e, c, d⟩ := id st'
    exact ⟨u, rfl, go_of (s := { s with heap := h' }) e c d (by decide) ⟨x, H, I1, ru, ⟨rfl, fun ys hy => by rw [I.list_inj hy hq]; exact hx⟩, st', fun b hb => (hf b hb).1⟩⟩
  done := by
    intro X hP hw hK hc i pins s σ H E I hf st hg
    subst hP hw hK
    obtain ⟨xs, hq, hx⟩ := hg
    obtain ⟨its, rv, p, hz⟩ := I.list hq
    obtain ⟨f0, f1, f2, f3, f4, f5⟩ := hf it (by simp)
    have hl := rv.length
    exact wpAny_pyNext_list_end (I.ok.hd hc) st p.isList (by simp; omega) fun h' eb => ⟨rfl, I.turned (t' := s.toks) (fun b o hb e => eb b o hb e) f0 f1 f3 f4 f5⟩
  self := fun _ _ _ _ _ st h => wpAny_pyIter_listiter st h
theorem turn_tuple {P : Program} {w : World} {K : PySem.W.Frag} {tg : Expr} (a it : Addr) : Turn P w K tg (Itt K a) [it] it (fun i h => h.IsTupleIter it a i) where
  mem := by simp
  obj := fun i h st b hb => by
    have e : b = it := by simpa using hb
    subst e
    obtain ⟨o, e, c, d⟩ := st
    exact ⟨o, e, fun v z => by rw [d] at z; cases z⟩
  keep := fun i h h' st k => st.at fun o e => k it (by simp) o e
  item := by
    intro X hP hw hK hc i pins s σ H E I hf st hg
    subst hP hw hK
    obtain ⟨xs, x, hq, hx⟩ := hg
    obtain ⟨its, rv, p, hz⟩ := I.tuple hq
    obtain ⟨u, hu, ru⟩ := rv.get hx
    obtain ⟨f0, f1, f2, f3, f4, f5⟩ := hf it (by simp)
    refine wpAny_pyNext_tuple_item st (show s.heap.IsTuple a its.toArray from p) (x := u) (by simpa using hu) fun h' st' sb => ?_
    have I1 : Inv X pins σ H { s with heap := h' } := I.turned (t' := s.toks) (fun b o hb e => (sb.2 b hb).trans e) f0 f1 f3 f4 f5
    obtain ⟨o, e, c, d⟩ := id st'
    exact ⟨u, rfl, go_of (s := { s with heap := h' }) e c d (by decide) ⟨x, H, I1, ru, ⟨rfl, fun ys hy => by rw [I.tuple_inj hy hq]; exact hx⟩, st', fun b hb => (hf b hb).1⟩⟩
  done := by
    intro X hP hw hK hc i pins s σ H E I hf st hg
    subst hP hw hK
    obtain ⟨xs, hq, hx⟩ := hg
    obtain ⟨its, rv, p, hz⟩ := I.tuple hq
    obtain ⟨f0, f1, f2, f3, f4, f5⟩ := hf it (by simp)
    have hl := rv.length
    exact wpAny_pyNext_tuple_end (I.ok.hd hc) st (show s.heap.IsTuple a its.toArray from p) (by simp; omega) fun h' eb => ⟨rfl, I.turned (t' := s.toks) (fun b o hb e => eb b o hb e) f0 f1 f3 f4 f5⟩
  self := fun _ _ _ _ _ st h => wpAny_pyIter_tupleiter st h
theorem turn_range {P : Program} {w : World} {K : PySem.W.Frag} {tg : Expr} (it : Addr) (lo : Int) (n : Nat) : Turn P w K tg (Itr lo n) [it] it (fun i h => IsRangeIter h it (lo + (i : Nat) * 1) ((n : Int) - (i : Nat)) 1) where
  mem := by simp
  obj := fun i h st b hb => by
    have e : b = it := by simpa using hb
    subst e
    exact ⟨_, st, fun v z => by
      have z' : Data.fields _ = Data.cell v := z
      cases z'⟩
  keep := fun i h h' st k => k it (by simp) _ st
  item := by
    intro X hP hw hK hc i pins s σ H E I hf st hg
    subst hP hw hK
    obtain ⟨f0, f1, f2, f3, f4, f5⟩ := hf it (by simp)
    have W := Walks.range (prog := X.prog) (w := X.w) (I.ok.hd hc) it lo 1 n
    refine W.item i s _ _ hg st fun v h' tk hv st' kk => ?_
    obtain ⟨t, rfl⟩ := hv
    have I1 : Inv X pins σ H { s with heap := h', toks := tk } := I.turned (fun b o hb e => kk b o (by simpa using hb) e) f0 f1 f3 f4 f5
    refine ⟨_, rfl, go_of (s := { s with heap := h', toks := tk }) (n := "range_iterator") st' rfl rfl (by decide) ⟨.int (lo + i), H, I1, ⟨t, ?_⟩, ⟨rfl, rfl⟩, st', fun b hb => (hf b hb).1⟩⟩
    rw [Int.mul_one]
  done := by
    intro X hP hw hK hc i pins s σ H E I hf st hg
    subst hP hw hK
    obtain ⟨f0, f1, f2, f3, f4, f5⟩ := hf it (by simp)
    exact wpAny_pyNext_range_end (I.ok.hd hc) st (by have : n <= i := hg; omega) fun h' eb => ⟨rfl, I.turned (t' := s.toks) (fun b o hb e => eb b o hb e) f0 f1 f3 f4 f5⟩
  self := fun _ _ _ _ _ st h => wpAny_pyIter_rangeiter st h
end L2
namespace L2
open PySem PySem.Spec PyProof.Rows
section
variable {X : Cx} {tg : Expr}
def iList (K : PySem.W.Frag) (tl : TE) : TI := fun σ H R => tl σ H fun x H1 => ∃ a, x = .ref a /\ (∃ xs, SqL K H1 a xs) /\ R (Itl K a) H1
def iTup (K : PySem.W.Frag) (tl : TE) : TI := fun σ H R => tl σ H fun x H1 => ∃ a, x = .ref a /\ (∃ xs, SqT K H1 a xs) /\ R (Itt K a) H1
theorem pi_list {l : Expr} {tl : TE} (hl : PE X l tl) : PI X tg l (iList X.K tl) := by
  intro pins s σ H R I h
  refine thn (hl pins s σ H _ I h) fun v s1 ⟨x, H1, I1, r1, q1⟩ => ?_
  obtain ⟨a, e, ⟨xs, hq⟩, q⟩ := q1
  subst e
  cases r1
  obtain ⟨its, rv, p, hz⟩ := I1.list hq
  refine wpAny_pyIter_list p.isList ?_
  refine ⟨s1.heap.objs.size, [s1.heap.objs.size], _, _, H1, rfl, I1.kept (t' := s1.toks) fun b o e => Heap.get?_push_of_some _ e, turn_list a _, ⟨_, Heap.get?_push_size _ rfl, rfl, rfl⟩, fun b hb => ?_, q⟩
  have e : b = s1.heap.objs.size := by simpa using hb
  subst e
  exact I1.fpOk (Nat.le_refl _) (I1.hok.fresh (Nat.le_refl _))
theorem pi_tup {l : Expr} {tl : TE} (hl : PE X l tl) : PI X tg l (iTup X.K tl) := by
  intro pins s σ H R I h
  refine thn (hl pins s σ H _ I h) fun v s1 ⟨x, H1, I1, r1, q1⟩ => ?_
  obtain ⟨a, e, ⟨xs, hq⟩, q⟩ := q1
  subst e
  cases r1
  obtain ⟨its, rv, p, hz⟩ := I1.tuple hq
  refine wpAny_pyIter_tuple (show s1.heap.IsTuple a its.toArray from p) ?_
  refine ⟨s1.heap.objs.size, [s1.heap.objs.size], _, _, H1, rfl, I1.kept (t' := s1.toks) fun b o e => Heap.get?_push_of_some _ e, turn_tuple a _, ⟨_, Heap.get?_push_size _ rfl, rfl, rfl⟩, fun b hb => ?_, q⟩
  have e : b = s1.heap.objs.size := by simpa using hb
  subst e
  exact I1.fpOk (Nat.le_refl _) (I1.hok.fresh (Nat.le_refl _))
theorem range_it {pins : List (Addr × Obj)} {σ : St} {H : Hp} {s : Shared} {R : It -> Hp -> Prop} {E : Value -> Shared -> Prop} {lo hi : Int} {t u v : Tok} {tk : Nat} (I : Inv X pins σ H s) (h1 : -(2 ^ 62) <= lo) (h2 : lo < 2 ^ 62) (h3 : -(2 ^ 62) <= hi) (h4 : hi < 2 ^ 62)
    (q : R (Itr lo (hi - lo).toNat) H) : wpAny (model X.prog X.w) X.A (pyIter (.ref s.heap.objs.size)) (PIE X pins σ tg R) E { s with heap := s.heap.push { cls := .type "range", data := .fields #[.int lo t, .int hi u, .int 1 v] }, toks := tk } := by
  refine wpAny_pyIter_range (IsRange.new ..) (small_one h1 h2 h3 h4) ?_
  have I1 : Inv X pins σ H { s with heap := s.heap.push { cls := .type "range", data := .fields #[.int lo t, .int hi u, .int 1 v] }, toks := tk } := I.kept fun b o e => Heap.get?_push_of_some _ e
  refine ⟨(s.heap.push { cls := .type "range", data := .fields #[.int lo t, .int hi u, .int 1 v] }).objs.size, [(s.heap.push { cls := .type "range", data := .fields #[.int lo t, .int hi u, .int 1 v] }).objs.size], _, _, H, rfl,
    I1.kept (t' := tk) fun b o e => Heap.get?_push_of_some _ e, turn_range _ lo (hi - lo).toNat, ?_, fun b hb => ?_, q⟩
  · have e1 : lo + ((0 : Nat) : Int) * 1 = lo := by simp
    have e2 : (((hi - lo).toNat : Nat) : Int) - ((0 : Nat) : Int) = Builtin.Range.rangeSize lo hi 1 := by rw [rangeSize_one]; split <;> omega
    show IsRangeIter _ _ (lo + ((0 : Nat) : Int) * 1) ((((hi - lo).toNat : Nat) : Int) - ((0 : Nat) : Int)) 1
    rw [e1, e2]
    exact Heap.get?_push_size _ rfl
  · have e : b = (s.heap.push { cls := .type "range", data := .fields #[.int lo t, .int hi u, .int 1 v] }).objs.size := by simpa using hb
    subst e
    exact I1.fpOk (Nat.le_refl _) (I1.hok.fresh (Nat.le_refl _))
def iRng1 (ta : TA) : TI := fun σ H R => ta σ H fun vs H1 => ∃ j : Int, vs = [.int j] /\ -(2 ^ 62) <= j /\ j < 2 ^ 62 /\ R (Itr 0 j.toNat) H1
theorem pi_range1 {a : Expr} {ta : TA} {p pos : Pos} (hg : Gl X "range") (hm : X.mg "range" = none) (ha : PA X [a] ta) (hs : starEach [a] X.env = [(false, eval a X.env)] := by rfl) : PI X tg (.Call (.Name "range" p) [a] [] pos) (iRng1 ta) := by
  intro pins s σ H R I h
  refine Call_ (ld_blt I hg hm boot_range (PyProof.Rows.callWith_type1 (thn (ha pos pins s σ H _ I h) fun us s1 ⟨vs, H1, I1, r1, q1⟩ => ?_) hs rfl))
  obtain ⟨j, e, q1, q2, q⟩ := q1
  subst e
  cases r1 with
  | cons r rr =>
    cases rr
    obtain ⟨t, rfl⟩ := r
    exact call_range_1 (range_it I1 (by omega) (by omega) q1 q2 (by simpa using q))
def tFor (wi : TI) (g : TG) (tb : TS) : TS := fun D σ H => wi σ H fun J H1 => ∃ W : Nat -> Nat -> St -> Hp -> Prop, (∃ m, W 0 m σ H1) /\ ∀ i m σ H, W i m σ H ->
  (J.stop i H /\ D.nx σ H) \/ (J.go i H /\ ∃ N : St -> Hp -> Prop, (∀ σ' H', N σ' H' -> ∃ m', m' < m /\ W (i + 1) m' σ' H') /\ ∀ x H', J.yld i H x H' -> g x σ H' fun σ2 H2 => tb { D with nx := N, ct := N, bk := D.nx } σ2 H2)
def pinsAt (fp : List Addr) (h : Heap) : List (Addr × Obj) := fp.filterMap fun b => (h.get? b).map fun o => (b, o)
theorem mem_pinsAt {fp : List Addr} {h : Heap} {b : Addr} {o : Obj} (hb : b ∈ fp) (e : h.get? b = some o) : (b, o) ∈ pinsAt fp h := List.mem_filterMap.mpr ⟨b, hb, by rw [e]; rfl⟩
theorem of_pinsAt {fp : List Addr} {h : Heap} {p : Addr × Obj} (hp : p ∈ pinsAt fp h) : p.1 ∈ fp /\ h.get? p.1 = some p.2 := by
  obtain ⟨b, hb, e⟩ := List.mem_filterMap.mp hp
  cases q : h.get? b with
  | none => rw [q] at e; cases e
  | some o =>
    rw [q] at e
    have e' : (b, o) = p := Option.some.inj e
    subst e'
    exact ⟨hb, q⟩
theorem Inv.pinned {pins : List (Addr × Obj)} {σ : St} {H : Hp} {s : Shared} {fp : List Addr} (I : Inv X pins σ H s) (hf : ∀ b ∈ fp, FpOk X pins H b) (ho : ∀ b ∈ fp, ∃ o, s.heap.get? b = some o /\ ∀ v, o.data ≠ .cell v) : Inv X (pins ++ pinsAt fp s.heap) σ H s :=
  I.pins_of fun p hp => (List.mem_append.mp hp).elim (fun z => I.pin p (List.mem_append_right _ z)) fun z => by
    obtain ⟨hb, e⟩ := of_pinsAt z
    obtain ⟨f0, f1, f2, _⟩ := hf p.1 hb
    obtain ⟨o, e', d⟩ := ho p.1 hb
    rw [e] at e'; cases e'
    exact ⟨e, f0, f1, f2, d⟩
theorem Inv.unpinned {pins pl : List (Addr × Obj)} {σ : St} {H : Hp} {s : Shared} (I : Inv X (pins ++ pl) σ H s) : Inv X pins σ H s := I.pins_of fun p hp => I.pin p (List.mem_append_right _ (List.mem_append_left _ hp))
theorem ps_for {iter : Expr} {body : List Stmt} {wi : TI} {g : TG} {tb : TS} {pos : Pos} (hp : PassesOwn (model X.prog X.w) X.A X.env X.xe) (hc : X.calm = true) (hi : PI X tg iter wi) (hg : PG X tg g) (hb : PSs X body tb)
    (hs : ∀ x, foldedSetIterable iter X.env x = pure x := by intro _; rfl) : PS X (.For tg iter body [] pos) (tFor wi g tb) := by
  intro pins s σ H D I h
  refine wpAny_For (thn (hi pins s σ H _ I h) fun v s1 h1 => thn h1 fun itv s2 h2 => ?_) hs
  obtain ⟨it, fp, tn, J, H2, e, I2, T, st2, f2, W, ⟨m0, w0⟩, turn⟩ := h2
  subst e
  have stat : ∀ {H' : Hp}, (∀ b ∈ fp, H' b = none) -> ∀ b ∈ fp, FpOk X pins H' b := fun hn b hb => ⟨hn b hb, (f2 b hb).2⟩
  refine codeAny_forLoop_any (fun n s' => ∃ i σ' H', Inv X pins σ' H' s' /\ tn i s'.heap /\ (∀ b ∈ fp, H' b = none) /\ W i n σ' H') ?_ m0 ⟨0, σ, H2, I2, st2, fun b hb => (f2 b hb).1, w0⟩
  rintro n s3 ⟨i, σ3, H3, I3, st3, fr3, w3⟩
  rcases turn i n σ3 H3 w3 with ⟨stop, qn⟩ | ⟨go, N, hN, step⟩
  · refine wpAny_passesOwn hp (thn (T.done X rfl rfl rfl hc i pins s3 σ3 H3 X.xe I3 (stat fr3) st3 stop) fun r s4 ⟨hr, I4⟩ => ?_)
    subst hr
    exact wpAny_execs_nil ⟨σ3, H3, I4, qn⟩
  · refine wpAny_passesOwn hp (thn (T.item X rfl rfl rfl hc i pins s3 σ3 H3 X.xe I3 (stat fr3) st3 go) fun r s4 ⟨u, hr, h4⟩ => ?_)
    subst hr
    refine wpAny_passesOwn hp (thn h4 fun _ s5 ⟨x, H5, I5, r5, y5, st5, fr5⟩ => ?_)
    have I5' := I5.pinned (stat fr5) (T.obj _ _ st5)
    refine wpAny_passesOwn hp (thn (hg _ s5 σ3 H5 x u _ I5' r5 (step x H5 y5)) fun _ s6 ⟨σ6, H6, I6, q6⟩ => ?_)
    refine wpAny_passesOwn hp (thn (hb _ s6 σ6 H6 _ I6 q6) fun f s7 q7 => ?_)
    have again : ∀ {σ7 : St} {H7 : Hp}, Inv X (pins ++ pinsAt fp s5.heap) σ7 H7 s7 -> N σ7 H7 -> ∃ m, m < n /\ ∃ i σ' H', Inv X pins σ' H' s7 /\ tn i s7.heap /\ (∀ b ∈ fp, H' b = none) /\ W i m σ' H' := fun {σ7 H7} I7 n7 => by
      obtain ⟨m', hm, w7⟩ := hN σ7 H7 n7
      refine ⟨m', hm, i + 1, σ7, H7, I7.unpinned, T.keep _ _ _ st5 fun b hb o e => (I7.pin (b, o) (List.mem_append_right _ (List.mem_append_right _ (mem_pinsAt hb e)))).1, fun b hb => ?_, w7⟩
      obtain ⟨o, e, d⟩ := T.obj _ _ st5 b hb
      exact (I7.pin (b, o) (List.mem_append_right _ (List.mem_append_right _ (mem_pinsAt hb e)))).2.1
    cases f with
    | next => obtain ⟨σ7, H7, I7, n7⟩ := q7; exact again I7 n7
    | cont => obtain ⟨σ7, H7, I7, n7⟩ := q7; exact again I7 n7
    | brk => obtain ⟨σ7, H7, I7, q7⟩ := q7; exact ⟨σ7, H7, I7.unpinned, q7⟩
    | ret v => obtain ⟨x7, σ7, H7, I7, r7, q7⟩ := q7; exact ⟨x7, σ7, H7, I7.unpinned, r7, q7⟩
end
theorem for_list {K : PySem.W.Frag} {a : Addr} {xs : List V} {g : TG} {tb : TS} {D : Ends} {σ : St} {H : Hp} (Pv : Nat -> St -> Hp -> Prop) (h0 : Pv 0 σ H) (hl : ∀ i σ H, i <= xs.length -> Pv i σ H -> SqL K H a xs)
    (hs : ∀ i x σ H, xs[i]? = some x -> Pv i σ H -> g x σ H fun σ2 H2 => tb { D with nx := Pv (i + 1), ct := Pv (i + 1), bk := D.nx } σ2 H2) (hd : ∀ σ H, Pv xs.length σ H -> D.nx σ H) :
    ∃ W : Nat -> Nat -> St -> Hp -> Prop, (∃ m, W 0 m σ H) /\ ∀ i m σ H, W i m σ H ->
      ((Itl K a).stop i H /\ D.nx σ H) \/ ((Itl K a).go i H /\ ∃ N : St -> Hp -> Prop, (∀ σ' H', N σ' H' -> ∃ m', m' < m /\ W (i + 1) m' σ' H') /\ ∀ x H', (Itl K a).yld i H x H' -> g x σ H' fun σ2 H2 => tb { D with nx := N, ct := N, bk := D.nx } σ2 H2) := by
  refine ⟨fun i m σ H => m = xs.length - i /\ i <= xs.length /\ Pv i σ H, ⟨xs.length, by simp, Nat.zero_le _, h0⟩, ?_⟩
  rintro i m σ H ⟨rfl, hi, p⟩
  have q := hl i σ H hi p
  by_cases hlt : i < xs.length
  · refine .inr ⟨⟨xs, xs[i], q, by simp [hlt]⟩, Pv (i + 1), fun σ' H' p' => ⟨xs.length - (i + 1), by omega, rfl, hlt, p'⟩, fun x H' y => ?_⟩
    obtain ⟨e, y⟩ := y
    subst e
    exact hs i x σ _ (y xs q) p
  · have e : i = xs.length := by omega
    subst e
    exact .inl ⟨⟨xs, q, Nat.le_refl _⟩, hd σ H p⟩
theorem for_tup {K : PySem.W.Frag} {a : Addr} {xs : List V} {g : TG} {tb : TS} {D : Ends} {σ : St} {H : Hp} (Pv : Nat -> St -> Hp -> Prop) (h0 : Pv 0 σ H) (hl : ∀ i σ H, i <= xs.length -> Pv i σ H -> SqT K H a xs)
    (hs : ∀ i x σ H, xs[i]? = some x -> Pv i σ H -> g x σ H fun σ2 H2 => tb { D with nx := Pv (i + 1), ct := Pv (i + 1), bk := D.nx } σ2 H2) (hd : ∀ σ H, Pv xs.length σ H -> D.nx σ H) :
    ∃ W : Nat -> Nat -> St -> Hp -> Prop, (∃ m, W 0 m σ H) /\ ∀ i m σ H, W i m σ H ->
      ((Itt K a).stop i H /\ D.nx σ H) \/ ((Itt K a).go i H /\ ∃ N : St -> Hp -> Prop, (∀ σ' H', N σ' H' -> ∃ m', m' < m /\ W (i + 1) m' σ' H') /\ ∀ x H', (Itt K a).yld i H x H' -> g x σ H' fun σ2 H2 => tb { D with nx := N, ct := N, bk := D.nx } σ2 H2) := by
  refine ⟨fun i m σ H => m = xs.length - i /\ i <= xs.length /\ Pv i σ H, ⟨xs.length, by simp, Nat.zero_le _, h0⟩, ?_⟩
  rintro i m σ H ⟨rfl, hi, p⟩
  have q := hl i σ H hi p
  by_cases hlt : i < xs.length
  · refine .inr ⟨⟨xs, xs[i], q, by simp [hlt]⟩, Pv (i + 1), fun σ' H' p' => ⟨xs.length - (i + 1), by omega, rfl, hlt, p'⟩, fun x H' y => ?_⟩
    obtain ⟨e, y⟩ := y
    subst e
    exact hs i x σ _ (y xs q) p
  · have e : i = xs.length := by omega
    subst e
    exact .inl ⟨⟨xs, q, Nat.le_refl _⟩, hd σ H p⟩
theorem for_range {lo : Int} {n : Nat} {g : TG} {tb : TS} {D : Ends} {σ : St} {H : Hp} (Pv : Nat -> St -> Hp -> Prop) (h0 : Pv 0 σ H)
    (hs : ∀ i σ H, i < n -> Pv i σ H -> g (.int (lo + i)) σ H fun σ2 H2 => tb { D with nx := Pv (i + 1), ct := Pv (i + 1), bk := D.nx } σ2 H2) (hd : ∀ σ H, Pv n σ H -> D.nx σ H) :
    ∃ W : Nat -> Nat -> St -> Hp -> Prop, (∃ m, W 0 m σ H) /\ ∀ i m σ H, W i m σ H ->
      ((Itr lo n).stop i H /\ D.nx σ H) \/ ((Itr lo n).go i H /\ ∃ N : St -> Hp -> Prop, (∀ σ' H', N σ' H' -> ∃ m', m' < m /\ W (i + 1) m' σ' H') /\ ∀ x H', (Itr lo n).yld i H x H' -> g x σ H' fun σ2 H2 => tb { D with nx := N, ct := N, bk := D.nx } σ2 H2) := by
  refine ⟨fun i m σ H => m = n - i /\ i <= n /\ Pv i σ H, ⟨n, by simp, Nat.zero_le _, h0⟩, ?_⟩
  rintro i m σ H ⟨rfl, hi, p⟩
  by_cases hlt : i < n
  · refine .inr ⟨hlt, Pv (i + 1), fun σ' H' p' => ⟨n - (i + 1), by omega, rfl, hlt, p'⟩, fun x H' y => ?_⟩
    obtain ⟨e, y⟩ := y
    subst e y
    exact hs i σ _ hlt p
  · have e : i = n := by omega
    subst e
    exact .inl ⟨Nat.le_refl _, hd σ H p⟩
end L2
namespace L2
open PySem PySem.Spec PyProof.Rows
abbrev R2 := V -> V -> Hp -> VK -> Prop
def OpR (X : Cx) (f : Value -> Value -> Sem Value) (r : R2) : Prop :=
  ∀ (pins : List (Addr × Obj)) (s : Shared) (σ : St) (H : Hp) (x y : V) (v u : Value) (Q : VK), Inv X pins σ H s -> RelV x v -> RelV y u -> r x y H Q ->
    wpAny (model X.prog X.w) X.A (f v u) (EP X pins σ Q) X.xe s
def CallR (X : Cx) (f : Value) (r : List V -> Hp -> VK -> Prop) : Prop :=
  ∀ (pins : List (Addr × Obj)) (s : Shared) (σ : St) (H : Hp) (xs : List V) (us : List Value) (Q : VK), Inv X pins σ H s -> Vals xs us -> r xs H Q ->
    wpAny (model X.prog X.w) X.A (call f us) (EP X pins σ Q) X.xe s
def tOp (r : R2) (ta tb : TE) : TE := fun σ H Q => ta σ H fun x H1 => tb σ H1 fun y H2 => r x y H2 Q
def rI (C : Int -> Int -> Prop) (g : Int -> Int -> V) : R2 := fun x y H Q => ∃ i j, x = .int i /\ y = .int j /\ C i j /\ Q (g i j) H
def rI0 (g : Int -> Int -> V) : R2 := fun x y H Q => ∃ i j, x = .int i /\ y = .int j /\ Q (g i j) H
section
variable {X : Cx} {a b c : Expr} {ta tb tc : TE} {pos : Pos}
theorem binT (ha : PE X a ta) (hb : PE X b tb) {pins : List (Addr × Obj)} {s : Shared} {σ : St} {H : Hp} {R : V -> V -> Hp -> Prop} (I : Inv X pins σ H s)
    (h : ta σ H fun x H1 => tb σ H1 fun y H2 => R x y H2) {Q : Value -> Shared -> Prop} {f : Value -> Value -> Sem Value}
    (hf : ∀ v u s2 x y H2, Inv X pins σ H2 s2 -> RelV x v -> RelV y u -> R x y H2 -> wpAny (model X.prog X.w) X.A (f v u) Q X.xe s2) :
    wpAny (model X.prog X.w) X.A (eval a X.env) (fun v s₁ => wpAny (model X.prog X.w) X.A (eval b X.env) (fun u s₂ => wpAny (model X.prog X.w) X.A (f v u) Q X.xe s₂) X.xe s₁) X.xe s := by
  refine thn (ha pins s σ H _ I h) fun v s1 ⟨x, H1, I1, r1, q1⟩ => ?_
  refine thn (hb pins s1 σ H1 _ I1 q1) fun u s2 ⟨y, H2, I2, r2, q2⟩ => ?_
  exact hf v u s2 x y H2 I2 r1 r2 q2
theorem pe_op {op : Operator} {r : R2} (ho : OpR X (binaryOp op) r) (ha : PE X a ta) (hb : PE X b tb) : PE X (.BinOp a op b pos) (tOp r ta tb) := by
  intro pins s σ H Q I h
  exact wpAny_BinOp (binT ha hb I h fun v u s2 x y H2 I2 rx ry q => ho pins s2 σ H2 x y v u Q I2 rx ry q)
theorem opI {f : Value -> Value -> Sem Value} {C : Int -> Int -> Prop} {g : Int -> Int -> Int}
    (rule : ∀ (i j : Int) (t u : Tok) (s : Shared) (Q : Value -> Shared -> Prop) (E : Value -> Shared -> Prop), C i j -> Q (.int (g i j) s.toks) { s with toks := s.toks + 1 } -> wpAny (model X.prog X.w) X.A (f (.int i t) (.int j u)) Q E s) :
    OpR X f (rI C fun i j => .int (g i j)) := by
  intro pins s σ H x y v u Q I rx ry h
  obtain ⟨i, j, rfl, rfl, hc, q⟩ := h
  obtain ⟨t, rfl⟩ := rx
  obtain ⟨t', rfl⟩ := ry
  exact rule i j t t' s _ _ hc ⟨.int (g i j), H, I.tok _, ⟨_, rfl⟩, q⟩
theorem opI0 {f : Value -> Value -> Sem Value} {g : Int -> Int -> Int}
    (rule : ∀ (i j : Int) (t u : Tok) (s : Shared) (Q : Value -> Shared -> Prop) (E : Value -> Shared -> Prop), Q (.int (g i j) s.toks) { s with toks := s.toks + 1 } -> wpAny (model X.prog X.w) X.A (f (.int i t) (.int j u)) Q E s) :
    OpR X f (rI0 fun i j => .int (g i j)) := by
  intro pins s σ H x y v u Q I rx ry h
  obtain ⟨i, j, rfl, rfl, q⟩ := h
  obtain ⟨t, rfl⟩ := rx
  obtain ⟨t', rfl⟩ := ry
  exact rule i j t t' s _ _ ⟨.int (g i j), H, I.tok _, ⟨_, rfl⟩, q⟩
theorem opB0 {f : Value -> Value -> Sem Value} {g : Int -> Int -> Bool}
    (rule : ∀ (i j : Int) (t u : Tok) (s : Shared) (Q : Value -> Shared -> Prop) (E : Value -> Shared -> Prop), Q (.bool (g i j)) s -> wpAny (model X.prog X.w) X.A (f (.int i t) (.int j u)) Q E s) :
    OpR X f (rI0 fun i j => .bl (g i j)) := by
  intro pins s σ H x y v u Q I rx ry h
  obtain ⟨i, j, rfl, rfl, q⟩ := h
  obtain ⟨t, rfl⟩ := rx
  obtain ⟨t', rfl⟩ := ry
  exact rule i j t t' s _ _ ⟨.bl (g i j), H, I, rfl, q⟩
def CDiv (i j : Int) : Prop := 0 < j /\ j < 1073741824
def CPow (i j : Int) : Prop := 0 <= j /\ j <= 1000000 /\ i.natAbs < 2 ^ 64
def CMul (i j : Int) : Prop := (-(2 ^ 64) < i /\ i < 2 ^ 64) \/ (-(2 ^ 64) < j /\ j < 2 ^ 64)
theorem CMul.ok {i j : Int} (h : CMul i j) : IntMulOk i j := by
  rcases h with ⟨h1, h2⟩ | ⟨h1, h2⟩
  · exact .of_left (intBits_le_64 h1 h2)
  · exact .of_right (intBits_le_64 h1 h2)
theorem op_add : OpR X (binaryOp .Add) (rI0 fun i j => .int (i + j)) := opI0 fun _ _ _ _ _ _ _ q => add_int q
theorem op_sub : OpR X (binaryOp .Sub) (rI0 fun i j => .int (i - j)) := opI0 fun _ _ _ _ _ _ _ q => sub_int q
theorem op_mul : OpR X (binaryOp .Mult) (rI CMul fun i j => .int (i * j)) := opI fun _ _ _ _ _ _ _ hc q => mul_int q hc.ok
theorem op_fdiv : OpR X (binaryOp .FloorDiv) (rI CDiv fun i j => .int (i / j)) := opI fun i j _ _ _ _ _ hc q => by
  have h1 : (0 : Int) < j := hc.1
  have h2 : j < 1073741824 := hc.2
  exact floordiv_int (by omega) (by rw [Int.fdiv_eq_ediv_of_nonneg i (by omega)]; exact q) (.inl (PyProof.noPylong_small (by omega)))
theorem op_mod : OpR X (binaryOp .Mod) (rI (fun _ j => 0 < j) fun i j => .int (i % j)) := opI fun i j _ _ _ _ _ hc q => by
  have h1 : (0 : Int) < j := hc
  exact mod_int' (by omega) (by rw [Int.fmod_eq_emod_of_nonneg i (by omega)]; exact q)
theorem op_pow : OpR X (binaryOp .Pow) (rI CPow fun i j => .int (i ^ j.toNat)) := opI fun _ _ _ _ _ _ _ hc q => pow_int_small hc.1 hc.2.1 hc.2.2 q
end
def scal : V -> V -> Bool
  | .non, .non => true | .non, .int _ => true | .int _, .non => true | .non, .bl _ => true | .bl _, .non => true | .non, .str _ => true | .str _, .non => true
  | .int _, .int _ => true | .bl _, .bl _ => true | .str _, .str _ => true | .byt _, .byt _ => true
  | .int _, .str _ => true | .str _, .int _ => true | .bl _, .str _ => true | .str _, .bl _ => true
  | _, _ => false
def rEq : R2 := fun x y H Q => scal x y = true /\ Q (.bl (decide (x = y))) H
def rNe : R2 := fun x y H Q => scal x y = true /\ Q (.bl (!decide (x = y))) H
theorem dec_int {i j : Int} : decide (V.int i = V.int j) = (i == j) := by
  rw [Bool.eq_iff_iff]
  simp
theorem dec_bl {i j : Bool} : decide (V.bl i = V.bl j) = (i == j) := by
  rw [Bool.eq_iff_iff]
  simp
theorem dec_str {i j : Str} : decide (V.str i = V.str j) = (i == j) := by
  rw [Bool.eq_iff_iff]
  simp
theorem dec_byt {i j : Array UInt8} : decide (V.byt i = V.byt j) = (i.toList == j.toList) := by
  rw [Bool.eq_iff_iff]
  cases i
  cases j
  simp
section
variable {X : Cx} {a b c : Expr} {ta tb tc : TE} {pos : Pos}
theorem fin_bl {pins : List (Addr × Obj)} {σ : St} {H : Hp} {s : Shared} {Q : VK} {k k' : Bool} (I : Inv X pins σ H s) (q : Q (.bl k) H) (e : k = k') : EP X pins σ Q (.bool k') s := by
  subst e
  exact ⟨.bl k, H, I, rfl, q⟩
theorem op_eq : OpR X (compareOp .Eq) rEq := by
  intro pins s σ H x y v u Q I rx ry h
  obtain ⟨hs, q⟩ := h
  cases x with
  | non =>
    cases rx
    cases y with
    | non => cases ry; exact PySem.EqNone.eq_none_none (fin_bl I q (by simp))
    | bl j => cases ry; exact PySem.EqNone.eq_none_bool (fin_bl I q (by simp))
    | int j => obtain ⟨t', rfl⟩ := ry; exact PySem.EqNone.eq_none_int (fin_bl I q (by simp))
    | str j => obtain ⟨t', rfl⟩ := ry; exact PySem.EqNone.eq_none_str (fin_bl I q (by simp))
    | _ => exact absurd (show false = true from hs) Bool.false_ne_true
  | bl i =>
    cases rx
    cases y with
    | non => cases ry; exact PySem.EqNone.eq_bool_none (fin_bl I q (by simp))
    | bl j => cases ry; exact eq_bool (fin_bl I q dec_bl)
    | str j => obtain ⟨t', rfl⟩ := ry; exact PySem.EqMixed.eq_bool_str (fin_bl I q (by simp))
    | _ => exact absurd (show false = true from hs) Bool.false_ne_true
  | int i =>
    obtain ⟨t, rfl⟩ := rx
    cases y with
    | non => cases ry; exact PySem.EqNone.eq_int_none (fin_bl I q (by simp))
    | int j => obtain ⟨t', rfl⟩ := ry; exact eq_int (fin_bl I q dec_int)
    | str j => obtain ⟨t', rfl⟩ := ry; exact PySem.EqMixed.eq_int_str (fin_bl I q (by simp))
    | _ => exact absurd (show false = true from hs) Bool.false_ne_true
  | str i =>
    obtain ⟨t, rfl⟩ := rx
    cases y with
    | non => cases ry; exact PySem.EqNone.eq_str_none (fin_bl I q (by simp))
    | bl j => cases ry; exact PySem.EqMixed.eq_str_bool (fin_bl I q (by simp))
    | int j => obtain ⟨t', rfl⟩ := ry; exact PySem.EqMixed.eq_str_int (fin_bl I q (by simp))
    | str j => obtain ⟨t', rfl⟩ := ry; exact eq_str (fin_bl I q dec_str)
    | _ => exact absurd (show false = true from hs) Bool.false_ne_true
  | byt i =>
    obtain ⟨t, rfl⟩ := rx
    cases y with
    | byt j => obtain ⟨t', rfl⟩ := ry; exact PySem.W.eq_bytes (fin_bl I q dec_byt)
    | _ => exact absurd (show false = true from hs) Bool.false_ne_true
  | _ => cases y <;> exact absurd (show false = true from hs) Bool.false_ne_true
theorem op_ne : OpR X (compareOp .NotEq) rNe := by
  intro pins s σ H x y v u Q I rx ry h
  obtain ⟨hs, q⟩ := h
  cases x with
  | non =>
    cases rx
    cases y with
    | non => cases ry; exact PySem.EqNone.ne_none_none (fin_bl I q (by simp))
    | bl j => cases ry; exact PySem.EqNone.ne_none_bool (fin_bl I q (by simp))
    | int j => obtain ⟨t', rfl⟩ := ry; exact PySem.EqNone.ne_none_int (fin_bl I q (by simp))
    | str j => obtain ⟨t', rfl⟩ := ry; exact PySem.EqNone.ne_none_str (fin_bl I q (by simp))
    | _ => exact absurd (show false = true from hs) Bool.false_ne_true
  | bl i =>
    cases rx
    cases y with
    | non => cases ry; exact PySem.EqNone.ne_bool_none (fin_bl I q (by simp))
    | bl j => cases ry; exact ne_bool (fin_bl I q (congrArg not dec_bl))
    | str j => obtain ⟨t', rfl⟩ := ry; exact PySem.EqMixed.ne_bool_str (fin_bl I q (by simp))
    | _ => exact absurd (show false = true from hs) Bool.false_ne_true
  | int i =>
    obtain ⟨t, rfl⟩ := rx
    cases y with
    | non => cases ry; exact PySem.EqNone.ne_int_none (fin_bl I q (by simp))
    | int j => obtain ⟨t', rfl⟩ := ry; exact ne_int (fin_bl I q (congrArg not dec_int))
    | str j => obtain ⟨t', rfl⟩ := ry; exact PySem.EqMixed.ne_int_str (fin_bl I q (by simp))
    | _ => exact absurd (show false = true from hs) Bool.false_ne_true
  | str i =>
    obtain ⟨t, rfl⟩ := rx
    cases y with
    | non => cases ry; exact PySem.EqNone.ne_str_none (fin_bl I q (by simp))
    | bl j => cases ry; exact PySem.EqMixed.ne_str_bool (fin_bl I q (by simp))
    | int j => obtain ⟨t', rfl⟩ := ry; exact PySem.EqMixed.ne_str_int (fin_bl I q (by simp))
    | str j => obtain ⟨t', rfl⟩ := ry; exact ne_str (fin_bl I q (congrArg not dec_str))
    | _ => exact absurd (show false = true from hs) Bool.false_ne_true
  | byt i =>
    obtain ⟨t, rfl⟩ := rx
    cases y with
    | byt j => obtain ⟨t', rfl⟩ := ry; exact PySem.W.ne_bytes (fin_bl I q (congrArg not dec_byt))
    | _ => exact absurd (show false = true from hs) Bool.false_ne_true
  | _ => cases y <;> exact absurd (show false = true from hs) Bool.false_ne_true
theorem op_lt : OpR X (compareOp .Lt) (rI0 fun i j => .bl (decide (i < j))) := opB0 fun _ _ _ _ _ _ _ q => lt_int q
theorem op_le : OpR X (compareOp .LtE) (rI0 fun i j => .bl (decide (i <= j))) := opB0 fun _ _ _ _ _ _ _ q => le_int q
theorem op_gt : OpR X (compareOp .Gt) (rI0 fun i j => .bl (decide (j < i))) := opB0 fun _ _ _ _ _ _ _ q => gt_int q
theorem nomark (b : Expr) {op : CmpOp} (h : op ≠ .In := by decide) (h2 : op ≠ .NotIn := by decide) : behindInMarks op b = false := by
  have e1 : (op == CmpOp.In) = false := by cases op <;> first | rfl | exact absurd rfl h
  have e2 : (op == CmpOp.NotIn) = false := by cases op <;> first | rfl | exact absurd rfl h2
  cases b <;> simp [behindInMarks, e1, e2]
theorem pe_cmpR {op : CmpOp} {r : R2} (ho : OpR X (compareOp op) r) (ha : PE X a ta) (hb : PE X b tb) (hm : behindInMarks op b = false) : PE X (.Compare a [op] [b] pos) (tOp r ta tb) := by
  intro pins s σ H Q I h
  exact wpAny_Compare1 (binT ha hb I h fun v u s2 x y H2 I2 rx ry q => ho pins s2 σ H2 x y v u Q I2 rx ry q) hm
def tTest (t : TE) : TT := fun σ H Q => t σ H fun x H' => ∃ k, x = .bl k /\ Q k H'
theorem pt_cmpR {op : CmpOp} {r : R2} (ho : OpR X (compareOp op) r) (ha : PE X a ta) (hb : PE X b tb) (hm : behindInMarks op b = false) : PT X (.Compare a [op] [b] pos) (tTest (tOp r ta tb)) := by
  intro pins s σ H Q I h
  refine wpAny_isTrue_Compare1 (thn (ha pins s σ H _ I h) fun v s1 ⟨x, H1, I1, r1, q1⟩ => thn (hb pins s1 σ H1 _ I1 q1) fun u s2 ⟨y, H2, I2, r2, q2⟩ =>
    thn (ho pins s2 σ H2 x y v u _ I2 r1 r2 q2) fun c s3 ⟨z, H3, I3, r3, k, e, q3⟩ => ?_) hm
  subst e
  cases r3
  exact wpAny_truthy_bool ⟨H3, I3, q3⟩
def tChain (r r' : R2) (ta tb tc : TE) : TE := fun σ H Q => ta σ H fun x H1 => tb σ H1 fun y H2 => r x y H2 fun z H3 => ∃ k, z = .bl k /\
  (if k = true then tc σ H3 fun w' H4 => r' y w' H4 Q else Q (.bl false) H3)
theorem pt_chain {op op' : CmpOp} {r r' : R2} (ho : OpR X (compareOp op) r) (ho' : OpR X (compareOp op') r') (ha : PE X a ta) (hb : PE X b tb) (hc : PE X c tc)
    (hm : lastMarks [op, op'] [b, c] = false := by with_unfolding_all rfl) : PT X (.Compare a [op, op'] [b, c] pos) (tTest (tChain r r' ta tb tc)) := by
  intro pins s σ H Q I h
  refine isTrue_chain (thn (ha pins s σ H _ I h) fun v s1 ⟨x, H1, I1, r1, q1⟩ => test_link (thn (hb pins s1 σ H1 _ I1 q1) fun u s2 ⟨y, H2, I2, r2, q2⟩ =>
    thn (ho pins s2 σ H2 x y v u _ I2 r1 r2 q2) fun d s3 ⟨z, H3, I3, r3, k, e, q3⟩ => ?_)) hm
  subst e
  cases r3
  refine wpAny_truthy_bool ?_
  cases k with
  | false =>
    obtain ⟨k', e', q'⟩ := q3
    cases e'
    exact ite_ff ⟨H3, I3, q'⟩
  | true =>
    refine ite_tt (test_last (thn (hc pins s3 σ H3 _ I3 q3) fun w' s4 ⟨z', H4, I4, r4, q4⟩ => thn (ho' pins s4 σ H4 y z' u w' _ I4 r2 r4 q4) fun d' s5 ⟨z2, H5, I5, r5, k2, e2, q5⟩ => ?_))
    subst e2
    cases r5
    exact wpAny_truthy_bool ⟨H5, I5, q5⟩
theorem line63 : (sizeLine : Nat) < 2 ^ 63 := by rw [sizeLine_eq]; decide
theorem op_add_str : OpR X (binaryOp .Add) (fun x y H Q => ∃ i j, x = .str i /\ y = .str j /\ i.length + j.length <= sizeLine /\ Q (.str (i ++ j)) H) := by
  intro pins s σ H x y v u Q I rx ry h
  obtain ⟨i, j, rfl, rfl, hz, q⟩ := h
  obtain ⟨t, rfl⟩ := rx
  obtain ⟨t', rfl⟩ := ry
  exact add_str (fun t' tk => ⟨.str (i ++ j), H, I.tok _, ⟨_, rfl⟩, q⟩) hz
theorem vals1 {x : V} {us : List Value} (r : Vals [x] us) : ∃ u, us = [u] /\ RelV x u := by
  cases r with
  | cons r1 r2 => cases r2; exact ⟨_, rfl, r1⟩
theorem vals2 {x y : V} {us : List Value} (r : Vals [x, y] us) : ∃ u w', us = [u, w'] /\ RelV x u /\ RelV y w' := by
  cases r with
  | cons r1 r2 =>
    cases r2 with
    | cons r3 r4 => cases r4; exact ⟨_, _, rfl, r1, r3⟩
theorem call_max2 (hc : X.calm = true) : CallR X (.builtin "max") (fun xs H Q => ∃ i j, xs = [.int i, .int j] /\ Q (.int (if j > i then j else i)) H) := by
  intro pins s σ H xs us Q I r h
  obtain ⟨i, j, rfl, q⟩ := h
  obtain ⟨u, w', rfl, ⟨t, rfl⟩, ⟨t', rfl⟩⟩ := vals2 r
  refine max_two_ints (I.ok.hd hc) fun h' tk k => ⟨_, H, I.kept k, ?_, q⟩
  by_cases hj : j > i
  · rw [if_pos hj, if_pos hj]; exact ⟨_, rfl⟩
  · rw [if_neg hj, if_neg hj]; exact ⟨_, rfl⟩
theorem call_min2 (hc : X.calm = true) : CallR X (.builtin "min") (fun xs H Q => ∃ i j, xs = [.int i, .int j] /\ Q (.int (if j < i then j else i)) H) := by
  intro pins s σ H xs us Q I r h
  obtain ⟨i, j, rfl, q⟩ := h
  obtain ⟨u, w', rfl, ⟨t, rfl⟩, ⟨t', rfl⟩⟩ := vals2 r
  refine min_two_ints (I.ok.hd hc) fun h' tk k => ⟨_, H, I.kept k, ?_, q⟩
  by_cases hj : j < i
  · rw [if_pos hj, if_pos hj]; exact ⟨_, rfl⟩
  · rw [if_neg hj, if_neg hj]; exact ⟨_, rfl⟩
theorem call_int1 : CallR X (.type "int") (fun xs H Q => (∃ i, xs = [.int i] /\ Q (.int i) H) \/ ∃ k, xs = [.bl k] /\ Q (.int (if k then 1 else 0)) H) := by
  intro pins s σ H xs us Q I r h
  rcases h with ⟨i, rfl, q⟩ | ⟨k, rfl, q⟩
  · obtain ⟨u, rfl, t, rfl⟩ := vals1 r
    exact call_int_int ⟨.int i, H, I, ⟨_, rfl⟩, q⟩
  · obtain ⟨u, rfl, r1⟩ := vals1 r
    cases r1
    exact call_int_bool ⟨.int (if k then 1 else 0), H, I.tok _, ⟨_, rfl⟩, q⟩
end
end L2
namespace L2
open PySem PySem.Spec PyProof.Rows
structure ObjM (h : Heap) (x dx C : Addr) (mA : Str -> Option Value) : Prop where
  obj : h.get? x = some (PySem.W.instObj C dx)
  ns : h.Ns1 dx mA
  ne : dx ≠ x
theorem lookIn_ns {h : Heap} {dx : Addr} {mA : Str -> Option Value} (n : h.Ns1 dx mA) : ∃ od, h.get? dx = some od /\ ∀ name, PySem.W.lookIn name od = some (mA name) := by
  obtain ⟨o, es, ep, ho, hd, hk, _, hm⟩ := n
  refine ⟨o, ho, fun name => ?_⟩
  have e := hm name
  unfold nsFind findBy at e
  rw [<- Array.find?_toList] at e
  unfold PySem.W.lookIn
  rw [hd]
  dsimp only
  split
  · rename_i y q
    rw [q] at e
    exact congrArg some e
  · rename_i q
    rw [q] at e
    have a : es.toList.any (·.refKey) = false := by
      rw [List.any_eq_false]
      intro y hy
      obtain ⟨z, t, hkey⟩ := hk y (Array.mem_toList_iff.mp hy)
      simp [DictEntry.refKey, hkey]
    have a' : ¬ es.toList.any (·.refKey) = true := by rw [a]; exact Bool.false_ne_true
    rw [if_neg a']
    exact congrArg some e
theorem ObjM.look {h : Heap} {x dx C : Addr} {mA : Str -> Option Value} (I : ObjM h x dx C mA) : ∃ od, PySem.W.InstAt h x (PySem.W.instObj C dx) C (some od) /\ ∀ name, PySem.W.lookIn name od = some (mA name) :=
  let ⟨od, ho, hl⟩ := lookIn_ns I.ns
  ⟨od, ⟨I.obj, rfl, rfl, ho⟩, hl⟩
section
variable {prog : Program} {w : World} {A : Around} {E : Value -> Shared -> Prop} {s : Shared} {K : PySem.W.Frag} {x dx C f : Addr} {mA : Str -> Option Value} {name : Str} {v : Value}
end
theorem RelO.some_of {v : V} {o : Option Value} (r : RelO (some v) o) : ∃ u, o = some u /\ RelV v u := by
  cases o with
  | none => exact (show False from r).elim
  | some u => exact ⟨u, rfl, r⟩
section
variable {P : Program} {w : World} {H H' : Hp} {h h' : Heap} {a C dx : Addr} {fs fs' : List (Str × V)}
theorem ins_get (hok : HOk P w H h) (e : H a = some (.ins C dx fs)) : ∃ mA, ObjM h a dx C mA /\ (∀ f, RelO (fs.lookup f) (mA f)) /\ PySem.Within mA (fs.map (·.1)) /\ fs.length <= 1000 /\ H dx = some (.own a) := by
  obtain ⟨d, z, ne, ob, mA, n, r, q⟩ := (show ObjOk P w H h a (.ins C dx fs) from hok a _ e)
  exact ⟨mA, ⟨ob, n, ne⟩, r, q, z, d⟩
end
structure Cls (K : PySem.W.Frag) (C : Addr) : Prop where
  pg : PySem.W.plainGet K C Str.empty = true
  hd : PySem.W.hasDictIn K C = true
  po : PySem.W.plainOver K C = true
  sa : PySem.W.findIn K (.ref C) "__setattr__" = some (some (.builtin "object.__setattr__"))
theorem Cls.get {K : PySem.W.Frag} {C : Addr} (c : Cls K C) (f : Str) : PySem.W.plainGet K C f = true := c.pg
section
variable {X : Cx} {pins : List (Addr × Obj)} {σ : St} {H : Hp} {s : Shared} {a C dx : Addr} {fs : List (Str × V)} {f : Str} {v : V} {A : Around} {E : Value -> Shared -> Prop}
end
section
variable {X : Cx} {o e value : Expr} {f : Str} {pos pos' tpos : Pos} {ta tv : TE}
end
section
variable {X : Cx} {pins : List (Addr × Obj)} {σ : St} {H : Hp} {s : Shared} {A : Around} {E : Value -> Shared -> Prop} {Q : Value -> Shared -> Prop} {c : Value} {b : Bool}
inductive TyOf (K : PySem.W.Frag) (H : Hp) : V -> Value -> Prop where
  | non : TyOf K H .non (.type "NoneType")
  | bl (x : Bool) : TyOf K H (.bl x) (.type "bool")
  | int (i : Int) : TyOf K H (.int i) (.type "int")
  | str (x : Str) : TyOf K H (.str x) (.type "str")
  | flt (x : UInt64) : TyOf K H (.flt x) (.type "float")
  | lst {a : Addr} {xs : List V} (e : H a = some (.lst xs)) : TyOf K H (.ref a) (.type "list")
  | frz {a : Addr} {o : Obj} {xs : List V} (e : H a = some (.frz o (.lst xs))) : TyOf K H (.ref a) (.type "list")
  | tup {a : Addr} {xs : List V} (e : H a = some (.tup xs)) : TyOf K H (.ref a) (.type "tuple")
  | dK {a : Addr} {kvs : List (Key × V)} (e : H a = some (.dK kvs)) : TyOf K H (.ref a) (.type "dict")
  | dT {a : Addr} {kvs : List (List Key × V)} (e : H a = some (.dT kvs)) : TyOf K H (.ref a) (.type "dict")
  | ins {a C dx : Addr} {fs : List (Str × V)} (e : H a = some (.ins C dx fs)) (cl : Cls K C) (ha : PySem.W.findIn K (.ref C) "__class__" = some (some (.builtin "object.__class__")))
      (hn : PySem.W.specialIn K (.builtin "object.__class__") "__get__" = some (some (.builtin "getset_descriptor.__get__"))) (htk : PySem.W.takesIn K (.builtin "object.__class__") = some true)
      (hm : PySem.W.mroIn K C (.type "object") = some true) : TyOf K H (.ref a) (.ref C)
theorem isinst_ok {x : V} {u t : Value} (I : Inv X pins σ H s) (rx : RelV x u) (ty : TyOf X.K H x t) (e : PySem.W.kitOne X.K t c = some b) (h : ∀ tk, Q (.bool b) { s with toks := tk }) :
    wpAny (model X.prog X.w) A (call (.builtin "isinstance") [u, c]) Q E s := by
  cases ty with
  | non => cases (show u = Value.none from rx); exact PySem.W.kia_one PySem.W.kitx_none I.kIn True.intro e (fun z => nomatch z) h
  | bl y => cases (show u = Value.bool y from rx); exact PySem.W.kia_one PySem.W.kitx_bool I.kIn True.intro e (fun z => nomatch z) h
  | int i => obtain ⟨t, q⟩ := (show ∃ t, u = Value.int i t from rx); cases q; exact PySem.W.kia_one PySem.W.kitx_int I.kIn True.intro e (fun z => nomatch z) h
  | str y => obtain ⟨t, q⟩ := (show ∃ t, u = Value.str y t from rx); cases q; exact PySem.W.kia_one PySem.W.kitx_str I.kIn True.intro e (fun z => nomatch z) h
  | flt y => obtain ⟨t, q⟩ := (show ∃ t, u = Value.float y t from rx); cases q; exact PySem.W.kia_one PySem.W.kitx_float I.kIn True.intro e (fun z => nomatch z) h
  | @lst a xs ea =>
    cases (show u = Value.ref a from rx)
    obtain ⟨_, _, n, _, h1⟩ := (show ObjOk X.prog X.w H s.heap a (.lst xs) from I.hok a _ ea)
    exact PySem.W.kia_one PySem.W.kitx_list I.kIn ⟨_, h1, rfl⟩ e (fun z => nomatch z) h
  | @frz a ob xs ea =>
    cases (show u = Value.ref a from rx)
    obtain ⟨_, _, _, n, _, h1⟩ := (show ObjOk X.prog X.w H s.heap a (.frz ob (.lst xs)) from I.hok a _ ea)
    exact PySem.W.kia_one PySem.W.kitx_list I.kIn ⟨_, h1, rfl⟩ e (fun z => nomatch z) h
  | @tup a xs ea =>
    cases (show u = Value.ref a from rx)
    obtain ⟨_, _, _, p⟩ := (show ObjOk X.prog X.w H s.heap a (.tup xs) from I.hok a _ ea)
    obtain ⟨o, h1, h2, _⟩ := p
    exact PySem.W.kia_one PySem.W.kitx_tuple I.kIn ⟨o, h1, h2⟩ e (fun z => nomatch z) h
  | @dK a kvs ea =>
    cases (show u = Value.ref a from rx)
    obtain ⟨_, _, vs, _, p⟩ := (show ObjOk X.prog X.w H s.heap a (.dK kvs) from I.hok a _ ea)
    obtain ⟨o, es, ep, h1, h2, _⟩ := p
    exact PySem.W.kia_one PySem.W.kitx_dict I.kIn ⟨o, h1, h2.1⟩ e (fun z => nomatch z) h
  | @dT a kvs ea =>
    cases (show u = Value.ref a from rx)
    obtain ⟨_, _, xs, _, o, es, ep, h1, h2, _⟩ := (show ObjOk X.prog X.w H s.heap a (.dT kvs) from I.hok a _ ea)
    exact PySem.W.kia_one PySem.W.kitx_dict I.kIn ⟨o, h1, h2.1⟩ e (fun z => nomatch z) h
  | @ins a C dx fs ea cl ha hn htk hm =>
    cases (show u = Value.ref a from rx)
    obtain ⟨mA, O, _⟩ := ins_get I.hok ea
    obtain ⟨od, J, _⟩ := O.look
    exact PySem.W.kia_one (PySem.W.kitx_own (cl.get _) cl.hd ha hn htk hm) I.kIn J e (fun z => nomatch z) h
end
end L2
namespace L2
open PySem PySem.Spec PyProof.Rows
structure Room (k : Nat) (A : Around) : Prop where
  hd : A.handled = none
  dp : A.depth + 3 * k + 5 < recursionLimit
  un : A.units + 16 * k + 200 < cLine
  gd : A.guards = some []
theorem Room.mono {j k : Nat} {A : Around} (r : Room k A) (h : j <= k) : Room j A := ⟨r.hd, by have := r.dp; omega, by have := r.un; omega, r.gd⟩
theorem Room.deeper {k : Nat} {A : Around} (r : Room (k + 1) A) (env : Env) : Room k (A.deeper env) :=
  ⟨r.hd, by have := r.dp; show A.depth + 1 + 3 * k + 5 < _; omega, by have := r.un; show A.units + 3 + 16 * k + 200 < _; omega, by first | exact r.gd | (show pushGuards _ A.guards = _; rw [r.gd]; rfl)⟩
theorem Room.depth {k : Nat} {A : Around} (r : Room k A) : A.depth < recursionLimit := by have := r.dp; omega
theorem Room.units {k : Nat} {A : Around} (r : Room k A) : A.units + 64 < cLine := by have := r.un; omega
def tNil : TA := fun _ H Q => Q [] H
def tCons (ta : TE) (tr : TA) : TA := fun σ H Q => ta σ H fun x H1 => tr σ H1 fun xs H2 => Q (x :: xs) H2
section
variable {X : Cx} {e : Expr} {es : List Expr} {te : TE} {t : TA} {pos : Pos}
theorem pa_nil : PA X [] tNil := fun _ _ _ _ H Q I h => Calls.spliced_nil ⟨[], H, I, .nil, h⟩
theorem pa_cons (ha : PE X e te) (hr : PA X es t) (hs : starEach (e :: es) X.env = (false, eval e X.env) :: starEach es X.env := by rfl) : PA X (e :: es) (tCons te t) := by
  intro pos pins s σ H Q I h
  rw [hs]
  show wpAny _ _ (spliced ((false, eval e X.env) :: backTo pos (starEach es X.env))) _ _ s
  refine Calls.spliced_cons (thn (ha pins s σ H _ I h) fun u s1 ⟨x, H1, I1, r1, q1⟩ => ?_)
  exact thn (hr pos pins s1 σ H1 _ I1 q1) fun us s2 ⟨xs, H2, I2, r2, q2⟩ => ⟨x :: xs, H2, I2, .cons r1 r2, q2⟩
def tTup (t : TA) : TE := fun σ H Q => t σ H fun xs H1 => xs.length <= sizeLine /\ ∀ p, H1 p = none -> Q (.ref p) (upd H1 p (.tup xs))
def tLst (t : TA) : TE := fun σ H Q => t σ H fun xs H1 => xs.length <= sizeLine /\ ∀ p, H1 p = none -> Q (.ref p) (upd H1 p (.lst xs))
theorem pe_tup {x1} (h : PA X es t) : PE X (.Tuple es x1 pos) (tTup t) := by
  intro pins s σ H Q I hq
  refine wpAny_Tuple_spliced (thn (h pos pins s σ H _ I hq) fun us s1 ⟨xs, H1, I1, r, z, q⟩ => ⟨by rw [<- r.length]; exact z, ?_⟩)
  have hf : H1 s1.heap.objs.size = none := I1.hok.fresh (Nat.le_refl _)
  refine ⟨.ref s1.heap.objs.size, upd H1 s1.heap.objs.size (.tup xs), I1.laid (t' := s1.toks) (fun b u e => Heap.get?_push_of_some _ e) (Nat.le_refl _) ?_, rfl, q _ hf⟩
  exact ⟨z, us, r, ⟨_, Heap.get?_push_size _ rfl, rfl, _, rfl⟩⟩
theorem pe_lst (h : PA X es t) : PE X (.List es pos) (tLst t) := by
  intro pins s σ H Q I hq
  refine wpAny_List_spliced (thn (h pos pins s σ H _ I hq) fun us s1 ⟨xs, H1, I1, r, z, q⟩ => ⟨by rw [<- r.length]; exact z, ?_⟩)
  have hf : H1 s1.heap.objs.size = none := I1.hok.fresh (Nat.le_refl _)
  refine ⟨.ref s1.heap.objs.size, upd H1 s1.heap.objs.size (.lst xs), I1.laid (t' := s1.toks) (fun b u e => Heap.get?_push_of_some _ e) (Nat.le_refl _) ?_, rfl, q _ hf⟩
  exact ⟨z, us, 0, r, Heap.get?_push_size _ rfl⟩
end
abbrev Sp := List V -> Hp -> VK -> XK -> Prop
abbrev CXT := List Env -> Hp -> Shared -> XK -> Value -> Shared -> Prop
structure Env0 (P : Program) (w : World) (K : PySem.W.Frag) (mg : Str -> Option Value) (base : Heap) (A : Around) (outer : List Env) (s : Shared) (H : Hp) : Prop where
  frames : A.frames = some outer
  mod : Mod K mg base
  bs : ∀ b o, base.get? b = some o -> s.heap.get? b = some o /\ H b = none
  bsz : base.objs.size <= s.heap.objs.size
  funs : s.heap.FunFrames base outer
  frf : ∀ b ∈ frs outer, H b = none
  hok : HOk P w H s.heap
  bare : AllBare s.gens
def CE (outer : List Env) (P : Program) (w : World) (H : Hp) (s : Shared) (Q : VK) (u : Value) (s' : Shared) : Prop :=
  ∃ v H', s'.os = s.os /\ AllBare s'.gens /\ Un (frs outer) [] H H' s.heap s'.heap /\ HOk P w H' s'.heap /\ RelV v u /\ Q v H'
def CR (CX : CXT) (outer : List Env) (P : Program) (w : World) (H : Hp) (s : Shared) (Q : VK) (E : XK) (r : Result) (s' : Shared) : Prop :=
  match r with
  | .ok (.ret u) => CE outer P w H s Q u s'
  | .ok _ => False
  | .error e => CX outer H s E e s'
structure FnOk (P : Program) (w : World) (K : PySem.W.Frag) (mg : Str -> Option Value) (base : Heap) (CX : CXT) (k : Nat) (f : Addr) (fd : FuncData) (ps : List Str) (sp : Sp) : Prop where
  len : ∀ vs H Q E, sp vs H Q E -> vs.length = ps.length
  run : ∀ (A : Around) (outer : List Env) (s : Shared) (H : Hp) (args : Args) (us : List Value) (vs : List V) (Q : VK) (E : XK), Room k A -> Env0 P w K mg base A outer s H -> BindsTo s fd args (ps.zip us) -> Vals vs us -> sp vs H Q E ->
    codeAny (model P w) A (.call (.ref f) args) (CR CX outer P w H s Q E) s
theorem FnOk.mono {P : Program} {w : World} {K : PySem.W.Frag} {mg : Str -> Option Value} {base : Heap} {CX : CXT} {j k : Nat} {f : Addr} {fd : FuncData} {ps : List Str} {sp : Sp} (F : FnOk P w K mg base CX j f fd ps sp) (h : j <= k) :
    FnOk P w K mg base CX k f fd ps sp := ⟨F.len, fun A outer s H args us vs Q E hr => F.run A outer s H args us vs Q E (hr.mono h)⟩
section
variable {X : Cx} {pins : List (Addr × Obj)} {σ : St} {H : Hp} {s s' : Shared}
theorem Inv.env0 (I : Inv X pins σ H s) : Env0 X.prog X.w X.K X.mg X.base X.A X.stack s H :=
  ⟨I.ok.frames, I.ok.mod, I.bs, Nat.le_trans I.ok.bsz I.sz, I.stack, I.stkFree, I.hok, I.bare⟩
theorem Inv.after {Q : VK} {u : Value} (I : Inv X pins σ H s) (h : CE X.stack X.prog X.w H s Q u s') : EP X pins σ Q u s' := by
  obtain ⟨v, H', os, bare, un, hok, r, q⟩ := h
  obtain ⟨hh, g, d, t, os'⟩ := s'
  obtain rfl : os' = s.os := os
  exact ⟨v, H', I.call (h' := hh) (g' := g) (d' := d) (t' := t) (ch := []) un hok bare (fun b z => absurd z (by simp)), r, q⟩
end
def tCall (sp : Sp) (dvs : List V) (E : XK) (t : TA) : TE := fun σ H Q => t σ H fun vs H1 => sp (vs ++ dvs) H1 Q E
def Binds (K : PySem.W.Frag) (fd : FuncData) (ps : List Str) (ds : List Value) : Prop :=
  ∀ (s : Shared) (us : List Value), K.In s.heap -> (us ++ ds).length = ps.length -> BindsTo s fd ⟨us, []⟩ (ps.zip (us ++ ds))
theorem Binds.all {K : PySem.W.Frag} {fd : FuncData} {ps : List Str} (h : ∀ us : List Value, us.length = ps.length -> bindArgs fd ⟨us, []⟩ = pure (ps.zip us)) : Binds K fd ps [] := fun s us _ hl => by
  rw [List.append_nil] at hl ⊢
  exact .of_eq (h us hl)
def Passes (CX : CXT) (X : Cx) (E : XK) : Prop := ∀ (pins : List (Addr × Obj)) (σ : St) (H : Hp) (s : Shared) (e : Value) (s' : Shared), Inv X pins σ H s -> CX X.stack H s E e s' -> X.xe e s'
section
variable {X : Cx} {CX : CXT} {k : Nat} {f C : Addr} {fd : FuncData} {ps : List Str} {sp : Sp} {dvs : List V} {ds : List Value} {E : XK} {x m : Str} {p pos apos : Pos} {e o : Expr} {es : List Expr} {ta : TE} {t : TA}
theorem run_fn {pins : List (Addr × Obj)} {σ : St} {H : Hp} {s : Shared} {Q : VK} {us : List Value} {vs : List V} (F : FnOk X.prog X.w X.K X.mg X.base CX k f fd ps sp) (hr : Room k X.A) (hb : Binds X.K fd ps ds) (hd : Vals dvs ds) (hx : Passes CX X E)
    (I : Inv X pins σ H s) (r : Vals vs us) (h : sp (vs ++ dvs) H Q E) : wpAny (model X.prog X.w) X.A (call (.ref f) us) (EP X pins σ Q) X.xe s := by
  have r2 : Vals (vs ++ dvs) (us ++ ds) := r.append hd
  have hl : (us ++ ds).length = ps.length := by rw [<- r2.length]; exact F.len _ _ _ _ h
  refine wpAny_call (codeAny_mono (F.run X.A X.stack s H ⟨us, []⟩ (us ++ ds) (vs ++ dvs) Q E hr I.env0 (hb s us I.kIn hl) r2 h) fun r s' hq => ?_)
  cases r with
  | error e => exact hx pins σ H s e s' I hq
  | ok fl =>
    cases fl with
    | ret u => exact I.after hq
    | next => exact False.elim hq
    | brk => exact False.elim hq
    | cont => exact False.elim hq
theorem pe_call (F : FnOk X.prog X.w X.K X.mg X.base CX k f fd ps sp) (hr : Room k X.A) (hg : Gl X x) (hm : X.mg x = some (.ref f)) (hk : PySem.W.keepIn X.K (.ref f) = true) (hb : Binds X.K fd ps ds) (hd : Vals dvs ds) (hx : Passes CX X E)
    (ha : PA X (e :: es) t) (hdb : (x == ("__debug__" : Str)) = false := by decide) (he : starEach (e :: es) X.env = (false, eval e X.env) :: starEach es X.env := by rfl) (hpl : (backTo pos (starEach es X.env)).any (·.1) = false := by rfl) :
    PE X (.Call (.Name x p) (e :: es) [] pos) (tCall sp dvs E t) := by
  intro pins s σ H Q I h
  refine wpAny_Call_Name_kw (ld_glob I hg hm ?_ hdb)
  refine PySem.W.callWith_K (h₀ := X.base) I.ok.mod.kin hk (thn (ha pos pins s σ H _ I h) fun us s1 ⟨vs, H1, I1, r, q⟩ => ⟨I1.kIn, ?_⟩) he hpl
  exact run_fn F hr hb hd hx I1 r q
end
section
variable {X : Cx} {CX : CXT} {k : Nat} {f C : Addr} {fd : FuncData} {ps ks : List Str} {sp : Sp} {E : XK} {x m : Str} {p pos apos kpos : Pos} {e o : Expr} {es : List Expr} {kws : List Keyword} {te ta : TE} {t tk : TA} {nm : Option Str}
variable {g : List Value -> List Value -> List Value} {gV : List V -> List V -> List V}
end
structure FnScope (N P : List Str) (sc : Scope) : Prop where
  kind : sc.kind = .function
  co : sc.isCoroutine = false
  gen : sc.isGenerator = false
  nd : N.Nodup
  pre : N.take P.length = P
  par : ∀ x ∈ P, sc.names.lookup x = some .local \/ sc.names.lookup x = some .cell
  nofree : ∀ y ∈ sc.names, y.2 ≠ .free
theorem bindL_out {kindOf : Str -> Option NameKind} {x : Str} : ∀ {binds : List (Str × Value)} {m : Str -> Option Value}, (∀ v, (x, v) ∉ binds) -> bindL kindOf binds m x = m x
  | [], _, _ => rfl
  | (n, v) :: r, m, h => by
    unfold bindL
    rw [bindL_out fun w hw => h w (List.mem_cons_of_mem _ hw)]
    split
    · have : x ≠ n := by rintro rfl; exact h v List.mem_cons_self
      simp [this]
    · rfl
theorem bindC_out {kindOf : Str -> Option NameKind} {x : Str} : ∀ {binds : List (Str × Value)} {m : Str -> Option Value}, (∀ v, (x, v) ∉ binds) -> bindC kindOf binds m x = m x
  | [], _, _ => rfl
  | (n, v) :: r, m, h => by
    unfold bindC
    rw [bindC_out fun w hw => h w (List.mem_cons_of_mem _ hw)]
    split
    · rfl
    · have : x ≠ n := by rintro rfl; exact h v List.mem_cons_self
      simp [this]
theorem bindL_get {kindOf : Str -> Option NameKind} {x : Str} {v : Value} : ∀ {P : List Str} {vs : List Value} {i : Nat} {m : Str -> Option Value}, P.Nodup -> P[i]? = some x -> vs[i]? = some v -> kindOf x = some .local ->
    bindL kindOf (P.zip vs) m x = some v
  | [], _, _, _, _, h, _, _ => by simp at h
  | _ :: _, [], _, _, _, _, h, _ => by simp at h
  | p :: P, w :: vs, 0, m, nd, h1, h2, hk => by
    simp at h1 h2; subst h1; subst h2
    show bindL kindOf ((p, w) :: P.zip vs) m p = _
    unfold bindL
    rw [bindL_out fun v hv => (List.nodup_cons.mp nd).1 (List.of_mem_zip hv).1, if_pos hk]
    simp
  | p :: P, w :: vs, i + 1, m, nd, h1, h2, hk => by
    show bindL kindOf ((p, w) :: P.zip vs) m x = _
    unfold bindL
    exact bindL_get (i := i) (List.nodup_cons.mp nd).2 (by simpa using h1) (by simpa using h2) hk
theorem bindC_get {kindOf : Str -> Option NameKind} {x : Str} {v : Value} : ∀ {P : List Str} {vs : List Value} {i : Nat} {m : Str -> Option Value}, P.Nodup -> P[i]? = some x -> vs[i]? = some v -> kindOf x ≠ some .local ->
    bindC kindOf (P.zip vs) m x = some v
  | [], _, _, _, _, h, _, _ => by simp at h
  | _ :: _, [], _, _, _, _, h, _ => by simp at h
  | p :: P, w :: vs, 0, m, nd, h1, h2, hk => by
    simp at h1 h2; subst h1; subst h2
    show bindC kindOf ((p, w) :: P.zip vs) m p = _
    unfold bindC
    rw [bindC_out fun v hv => (List.nodup_cons.mp nd).1 (List.of_mem_zip hv).1, if_neg hk]
    simp
  | p :: P, w :: vs, i + 1, m, nd, h1, h2, hk => by
    show bindC kindOf ((p, w) :: P.zip vs) m x = _
    unfold bindC
    exact bindC_get (i := i) (List.nodup_cons.mp nd).2 (by simpa using h1) (by simpa using h2) hk
def start (N : List Str) (vs : List V) : St := vs.map some ++ List.replicate (N.length - vs.length) none
def cxOf (CX : CXT) (P : Program) (w : World) (K : PySem.W.Frag) (mg : Str -> Option Value) (base : Heap) (N : List Str) (qual : Str) (scope : Scope) (f : Addr) (cd : Value) (A : Around) (outer : List Env) (s : Shared) (H : Hp) (E : XK) : Cx where
  prog := P
  w := w
  K := K
  mg := mg
  base := base
  A := A.deeper (envOfC qual scope s.heap.objs.size f cd)
  N := N
  s₀ := s
  H₀ := H
  env := envOfC qual scope s.heap.objs.size f cd
  outer := outer
  stack := envOfC qual scope s.heap.objs.size f cd :: outer
  ex := []
  calm := true
  fn := fun _ => true
  pn := []
  xe := fun e s' => wpAny (model P w) (A.deeper (envOfC qual scope s.heap.objs.size f cd)) (leaving (envOfC qual scope s.heap.objs.size f cd) e) (fun _ s'' => CX outer H s E e s'') (fun e' s'' => CX outer H s E e' s'') s'
theorem cell_has {sc : Scope} {n : Nat} {x : Str} (h : sc.names.lookup x = some .cell) : ∃ c, (cellsFrom n sc.names []).lookup x = some c := by
  have q := PySem.W.cellsFrom_some sc.names n [] (.inl h)
  exact Option.isSome_iff_exists.mp q
theorem inv_start {CX : CXT} {P : Program} {w : World} {K : PySem.W.Frag} {mg : Str -> Option Value} {base : Heap} {N ps : List Str} {qual : Str} {scope : Scope} {f : Addr} {cd : Value} {A : Around} {outer : List Env} {s s1 : Shared} {H : Hp} {E : XK} {us : List Value} {vs : List V}
    (S : FnScope N ps scope) (hd : A.handled = none) (e0 : Env0 P w K mg base A outer s H) (hl : vs.length = ps.length) (r : Vals vs us)
    (x : InCallC s s.heap.objs.size (bindL (envOfC qual scope s.heap.objs.size f cd).kindOf (ps.zip us) fun _ => none) (cellsFrom (s.heap.objs.size + 1) scope.names []) (bindC (envOfC qual scope s.heap.objs.size f cd).kindOf (ps.zip us) fun _ => none) s1) :
    Inv (cxOf CX P w K mg base N qual scope f cd A outer s H E) [] (start N vs) H s1 := by
  have hpl : ps.length <= N.length := by have := congrArg List.length S.pre; rw [List.length_take] at this; omega
  obtain ⟨h1, tk, rfl, hk⟩ := x.done
  have noA : ∀ b : Addr, b ∉ (cxOf CX P w K mg base N qual scope f cd A outer s H E).ex := fun b z => absurd (show b ∈ ([] : List Addr) from z) (by simp)
  refine ⟨⟨e0.mod, S.kind, rfl, rfl, Nat.le_refl _, fun y z c h1 h2 => ?_, fun y hy => ?_, fun y c _ h => ?_, fun _ => hd, Around.frames_deeper e0.frames, .inr ⟨rfl, rfl⟩, fun b z => absurd z (noA b), e0.bs, e0.bsz, fun b _ _ => noA b, fun b z => absurd z (noA b), e0.funs, e0.frf⟩,
    rfl, e0.bare, Un.kept hk, ⟨_, x.toInCall.ns, fun i y v h1 h2 h3 => ?_⟩, fun y c h => ⟨_, x.cell y c h⟩, e0.hok.fresh (Nat.le_refl _), fun y c h => ?_, fun p hp => absurd (show p ∈ ([] : List (Addr × Obj)) from hp) (by simp), e0.hok.kept hk, ?_⟩
  · exact name_of_addr x.apart (PySem.mem_of_lookup h1) (PySem.mem_of_lookup h2)
  · have hy : scope.names.lookup y = some .cell \/ scope.names.lookup y = some .free := hy
    rcases hy with hy | hy
    · exact cell_has hy
    · exact absurd rfl (S.nofree _ (PySem.mem_of_lookup hy))
  · exact Nat.le_of_lt (x.above y c (PySem.mem_of_lookup h))
  · have hi : i < vs.length := by
      unfold start at h2
      by_cases hi : i < vs.length
      · exact hi
      · rw [List.getElem?_append_right (by simpa using hi)] at h2
        rw [List.getElem?_replicate] at h2
        split at h2 <;> cases h2
    have ha : vs[i]? = some v := by
      unfold start at h2
      rw [List.getElem?_append_left (by simpa using hi), List.getElem?_map] at h2
      cases e : vs[i]? with
      | none => rw [e] at h2; cases h2
      | some a => rw [e] at h2; cases h2; rfl
    obtain ⟨u, hu, rv⟩ := r.get ha
    have hp : ps[i]? = some y := by
      rw [<- S.pre, List.getElem?_take_of_lt (by omega)]; exact h1
    have ndP : ps.Nodup := by rw [<- S.pre]; exact S.nd.sublist (List.take_sublist _ _)
    refine ⟨u, rv, ?_⟩
    rcases S.par y (List.mem_of_getElem? hp) with k | k
    · exact .inl ⟨k, bindL_get ndP hp hu k⟩
    · obtain ⟨c, e⟩ := cell_has (n := s.heap.objs.size + 1) k
      refine .inr ⟨.inl k, c, e, ?_⟩
      have q := x.cell y c e
      rw [bindC_get ndP hp hu (by show scope.names.lookup y ≠ _; rw [k]; decide)] at q
      exact q
  · exact e0.hok.fresh (Nat.le_of_lt (x.above y c (PySem.mem_of_lookup h)))
  · unfold start
    show _ = N.length
    rw [List.length_append, List.length_map, List.length_replicate]
    omega
theorem fn_of {CX : CXT} {P : Program} {w : World} {K : PySem.W.Frag} {mg : Str -> Option Value} {base : Heap} {k : Nat} {f : Addr} {name qual : Str} {params : Arguments} {body : List Stmt} {scope : Scope} {dV kV doc pm cdv ct oc : Value} {an od : Option Addr}
    {osl : Array (Option Value)} {N ps : List Str} {sp : Sp} (lk : K.lookup f = some ⟨oc, od, .func (PySem.W.fnOf name qual params body scope dV kV doc pm an cdv ct), osl⟩) (hcd : PySem.W.codeIn K cdv qual = true) (S : FnScope N ps scope)
    (len : ∀ vs H Q E, sp vs H Q E -> vs.length = ps.length)
    (hbody : ∀ (A : Around) (outer : List Env) (s : Shared) (H : Hp) (vs : List V) (Q : VK) (E : XK), Room k (A.deeper (envOfC qual scope s.heap.objs.size f cdv)) -> sp vs H Q E ->
      ∃ t, PSs (cxOf CX P w K mg base N qual scope f cdv A outer s H E) body t /\ t { nx := fun _ H' => Q .non H', rt := Q } (start N vs) H) :
    FnOk P w K mg base CX (k + 1) f (PySem.W.fnOf name qual params body scope dV kV doc pm an cdv ct) ps sp := by
  refine ⟨len, fun A outer s H args us vs Q E hr e0 hb r hsp => ?_⟩
  have hl := len _ _ _ _ hsp
  have KX : K.In s.heap := e0.mod.kin.keeps fun b o e => (e0.bs b o e).1
  have lim : s.heap.NoLimit := e0.mod.nolimit.keeps fun b o e => (e0.bs b o e).1
  have hkind : ∀ y ∈ ps.zip us, scope.names.lookup y.1 = some .local \/ (scope.names.lookup y.1 = some .cell /\ ((cellsFrom (s.heap.objs.size + 1) scope.names []).lookup y.1).isSome = true) := fun ⟨n, v⟩ hy => by
    rcases S.par n (List.of_mem_zip hy).1 with q | q
    · exact .inl q
    · exact .inr ⟨q, PySem.W.cellsFrom_some _ _ _ (.inl q)⟩
  refine codeAny_call_function hr.depth (KX _ _ lk) rfl S.co S.gen rfl (PySem.W.codeRec_of KX hcd) (hb _ _ _ _ ?_)
  refine wpAny_newFunctionEnv_cells S.kind hkind fun env he s1 x => ?_
  subst he
  refine ⟨lim.keeps x.toInCall.keep, codeAny_func ?_⟩
  obtain ⟨t, ht, hq⟩ := hbody A outer s H vs Q E (hr.deeper _) hsp
  have I : Inv (cxOf CX P w K mg base N qual scope f cdv A outer s H E) [] (start N vs) H s1 := inv_start S hr.hd e0 hl r x
  refine wpAny_mono (ht [] s1 (start N vs) H _ I hq) (fun fl s' hs => ?_) fun e s' hs => hs
  have fin : ∀ {σ' : St} {H' : Hp} {v : V} {u : Value}, Inv (cxOf CX P w K mg base N qual scope f cdv A outer s H E) [] σ' H' s' -> RelV v u -> Q v H' -> CE outer P w H s Q u s' :=
    fun {σ' H' v u} J rv q => ⟨v, H', J.os, J.bare, J.base, J.hok, rv, q⟩
  cases fl with
  | ret u =>
    obtain ⟨v, σ', H', J, rv, q⟩ := hs
    exact fin J rv q
  | next =>
    obtain ⟨σ', H', J, q⟩ := hs
    exact fin (v := V.non) (u := Value.none) J rfl q
  | brk =>
    obtain ⟨_, _, _, q⟩ := hs
    exact False.elim q
  | cont =>
    obtain ⟨_, _, _, q⟩ := hs
    exact False.elim q
end L2
namespace L2
open PySem PySem.Spec PyProof.Rows
section
variable {X : Cx} {x : Str} {p pos : Pos} {e : Expr} {es : List Expr} {t : TA} {id T : String} {r : List V -> Hp -> VK -> Prop}
def tCB (r : List V -> Hp -> VK -> Prop) (t : TA) : TE := fun σ H Q => t σ H fun vs H1 => r vs H1 Q
theorem pe_callB (hc : CallR X (.builtin id) r) (hg : Gl X x) (hm : X.mg x = none) (hv : bootBuiltins x = some (.builtin id)) (ha : PA X (e :: es) t) (hn : x ≠ "__name__" := by decide) (hdb : (x == ("__debug__" : Str)) = false := by decide)
    (he : starEach (e :: es) X.env = (false, eval e X.env) :: starEach es X.env := by rfl) (hpl : (backTo pos (starEach es X.env)).any (·.1) = false := by rfl) : PE X (.Call (.Name x p) (e :: es) [] pos) (tCB r t) := by
  intro pins s σ H Q I h
  refine wpAny_Call_Name_kw (ld_blt I hg hm hv ?_ hn hdb)
  exact PyProof.Rows.callWith_builtin1 (thn (ha pos pins s σ H _ I h) fun us s1 ⟨vs, H1, I1, r1, q1⟩ => hc pins s1 σ H1 vs us Q I1 r1 q1) he hpl
theorem pe_callTy (hc : CallR X (.type T) r) (hg : Gl X x) (hm : X.mg x = none) (hv : bootBuiltins x = some (.type T)) (ha : PA X (e :: es) t) (hn : x ≠ "__name__" := by decide) (hdb : (x == ("__debug__" : Str)) = false := by decide)
    (he : starEach (e :: es) X.env = (false, eval e X.env) :: starEach es X.env := by rfl) (hpl : (backTo pos (starEach es X.env)).any (·.1) = false := by rfl) : PE X (.Call (.Name x p) (e :: es) [] pos) (tCB r t) := by
  intro pins s σ H Q I h
  refine wpAny_Call_Name_kw (ld_blt I hg hm hv ?_ hn hdb)
  exact PyProof.Rows.callWith_type1 (thn (ha pos pins s σ H _ I h) fun us s1 ⟨vs, H1, I1, r1, q1⟩ => hc pins s1 σ H1 vs us Q I1 r1 q1) he hpl
end
end L2
namespace HT
open PySem PyProof.Rows
section
open PySem.SeqAt
open PySem.AutoSeq1 (wpAny_loadPart')
open PySem.MeetsSeq PySem.MeetsSeq2 PySem.MeetsSeq3
end
section
variable {prog : Program} {w : World} {A : Around} {E : Value -> Shared -> Prop} {s : Shared}
theorem cat_tup {t b : Addr} {vs ws : List Value} {Q : Value -> Shared -> Prop} (ht : IsTup s.heap t vs.toArray) (hb : IsTup s.heap b ws.toArray) (hv : vs ≠ [])
    (h1 : ws = [] -> Q (.ref t) s) (h2 : ws ≠ [] -> Q (.ref s.heap.objs.size) { s with heap := s.heap.push { cls := .type "tuple", data := .seq (vs ++ ws).toArray } })
    (hsz : vs.length + ws.length <= sizeLine) : wpAny (model prog w) A (binaryOp .Add (.ref t) (.ref b)) Q E s := by
  obtain ⟨⟨cls, dd, data, sl⟩, ho, hc, n, hd⟩ := id ht
  obtain ⟨⟨cls2, dd2, data2, sl2⟩, ho2, hc2, n2, hd2⟩ := id hb
  simp only at hc hd hc2 hd2
  subst hc hd hc2 hd2
  have e : vs.toArray ++ ws.toArray = (vs ++ ws).toArray := by simp
  by_cases hw : ws = []
  · exact concat_meets ⟨_, ho, rfl⟩ ⟨_, ho2, rfl⟩ noFill_tuple_add seq_tuple_add PySem.F.slot_tuple_add PySem.F.entry_tuple_add (PySem.F.args_tuple_add_2 _ _)
      (tuple_addW1 t b vs.toArray ws.toArray n n2 dd dd2 sl sl2 (by simpa using hv) (by simp [hw])) ⟨ho, ho2, h1 hw⟩
  · refine concat_meets ⟨_, ho, rfl⟩ ⟨_, ho2, rfl⟩ noFill_tuple_add seq_tuple_add PySem.F.slot_tuple_add PySem.F.entry_tuple_add (PySem.F.args_tuple_add_2 _ _)
      (tuple_addW2 t b vs.toArray ws.toArray n n2 dd dd2 sl sl2 (by simpa using hv) (by simpa using hw) (by rw [List.size_toArray, List.size_toArray]; exact hsz)) ⟨ho, ho2, ?_⟩
    rw [e]
    exact h2 hw
def sIx (n d : Nat) : Option Int -> Nat
  | none => d
  | some v => if v < 0 then (v + (n : Int)).toNat else min v.toNat n
theorem sIx_none (n d : Nat) : sIx n d none = d := rfl
theorem sIx_nat (n d k : Nat) : sIx n d (some (k : Int)) = min k n := by
  show (if (k : Int) < 0 then ((k : Int) + (n : Int)).toNat else min (k : Int).toNat n) = min k n
  rw [if_neg (by omega), Int.toNat_natCast]
theorem sIx_le (n d : Nat) (hd : d <= n) (o : Option Int) : sIx n d o <= n := by
  cases o with
  | none => exact hd
  | some v =>
    show (if v < 0 then (v + (n : Int)).toNat else min v.toNat n) <= n
    by_cases hv : v < 0
    · rw [if_pos hv]; omega
    · rw [if_neg hv]; exact Nat.min_le_right _ _
theorem clip_eq (v : Int) (n d : Nat) : (if v < 0 then max (v + (n : Int)) 0 else min v (n : Int)) = ((sIx n d (some v) : Nat) : Int) := by
  show (if v < 0 then max (v + (n : Int)) 0 else min v (n : Int)) = (((if v < 0 then (v + (n : Int)).toNat else min v.toNat n) : Nat) : Int)
  by_cases hv : v < 0
  · simp only [if_pos hv]; omega
  · simp only [if_neg hv]; omega
theorem adjust_gen (lo hi : Option Int) (n : Nat) : Builtin.Slice.sliceAdjust lo hi 1 (n : Int) = (((sIx n 0 lo : Nat) : Int), ((sIx n n hi : Nat) : Int)) := by
  have h1 : ¬ ((1 : Int) < 0) := by omega
  unfold Builtin.Slice.sliceAdjust
  simp only [h1, if_false]
  refine Prod.ext ?_ ?_
  · cases lo with
    | none => rfl
    | some v => exact clip_eq v n 0
  · cases hi with
    | none => rfl
    | some v => exact clip_eq v n n
theorem places_gen (i j : Nat) : Builtin.Slice.slicePlaces (i : Int) (j : Int) 1 = j - i := by
  unfold Builtin.Slice.slicePlaces
  have h1 : (1 : Int) > 0 := by omega
  simp only [h1, if_true, Int.ediv_one]
  split <;> omega
theorem slicePart_ {v : Value} {o : Option Int} {Q : Option Int -> Shared -> Prop} (p : IsPart v o) (h : Q o s) : wpAny (model prog w) A (Builtin.Slice.slicePartIndex v) Q E s := by
  cases p with
  | none => exact slicePart_none h
  | int i t => exact slicePart_int h
theorem sliceApplied_gen {sl : Addr} {vl vu : Value} {lo hi : Option Int} {n : Nat} {Q : Int × Int × Nat -> Shared -> Prop} (hs : s.heap.IsSliceOf sl vl vu .none) (pl : IsPart vl lo) (pu : IsPart vu hi)
    (h : Q (((sIx n 0 lo : Nat) : Int), 1, sIx n n hi - sIx n 0 lo) s) : wpAny (model prog w) A (Builtin.Slice.sliceApplied (.ref sl) (pure (n : Int))) Q E s := by
  obtain ⟨os, hos, hcs, hds⟩ := id hs
  unfold Builtin.Slice.sliceApplied Builtin.Slice.sliceFields
  refine wpAny_bind (wpAny_bind (wpAny_field hos hds (x := vl) rfl (wpAny_bind (wpAny_field hos hds (x := vu) rfl (wpAny_bind (wpAny_field hos hds (x := .none) rfl (wpAny_pure ?_)))))))
  refine wpAny_bind (slicePart_none ?_)
  show wpAny _ _ (if ((1 : Int) == 0) = true then _ else _) _ _ s
  rw [if_neg (by decide)]
  refine wpAny_bind (slicePart_ pl (wpAny_bind (slicePart_ pu (wpAny_bind (wpAny_pure ?_)))))
  show wpAny _ _ (match Builtin.Slice.sliceAdjust lo hi 1 (n : Int) with | (lo, hi) => pure (lo, (1 : Int), Builtin.Slice.slicePlaces lo hi 1)) _ _ s
  rw [adjust_gen lo hi n]
  show wpAny _ _ (pure (((sIx n 0 lo : Nat) : Int), (1 : Int), Builtin.Slice.slicePlaces ((sIx n 0 lo : Nat) : Int) ((sIx n n hi : Nat) : Int) 1)) _ _ s
  rw [places_gen]
  exact wpAny_pure h
theorem pick_gen (xs : Array Value) (i k : Nat) : ((List.range k).filterMap fun (m : Nat) => xs[((i : Int) + (m : Int) * 1).toNat]?).toArray = ((xs.toList.drop i).take k).toArray := by
  have e : (fun (m : Nat) => xs[((i : Int) + (m : Int) * 1).toNat]?) = fun m => xs[i + m]? := by
    funext m
    have : ((i : Int) + (m : Int) * 1).toNat = i + m := by omega
    rw [this]
  rw [e]
  have := pick_run xs i k
  rw [List.filterMap_map] at this
  have e2 : ((fun x => xs[x]?) ∘ fun x => i + x) = fun m => xs[i + m]? := rfl
  rw [e2] at this
  rw [this]
theorem getItem_tuple_cut {t sl : Addr} {items : Array Value} {vl vu : Value} {lo hi : Option Int} {Q : Value -> Shared -> Prop} (ht : IsTup s.heap t items) (hs : s.heap.IsSliceOf sl vl vu .none) (pl : IsPart vl lo) (pu : IsPart vu hi)
    (hw : ¬ (sIx items.size 0 lo = 0 /\ sIx items.size items.size hi = items.size))
    (h : Q (.ref s.heap.objs.size) { s with heap := s.heap.push { cls := .type "tuple", data := .seq ((items.toList.drop (sIx items.size 0 lo)).take (sIx items.size items.size hi - sIx items.size 0 lo)).toArray } })
    (hsz : items.size <= sizeLine) : wpAny (model prog w) A (getItem (.ref t) (.ref sl)) Q E s := by
  have htake : sizeOk (.seq ((items.toList.drop (sIx items.size 0 lo)).take (sIx items.size items.size hi - sIx items.size 0 lo)).toArray) := by
    show ((items.toList.drop (sIx items.size 0 lo)).take (sIx items.size items.size hi - sIx items.size 0 lo)).toArray.size <= sizeLine
    rw [List.size_toArray, List.length_take, List.length_drop, Array.length_toList]
    omega
  have hj : sIx items.size items.size hi <= items.size := sIx_le _ _ (Nat.le_refl _) hi
  obtain ⟨os, hos, hcs, hds⟩ := id hs
  have hTs : s.TypeIs (.ref sl) "slice" := ⟨os, hos, hcs⟩
  unfold getItem
  try with_reducible refine wpAny_holding ?_
  first | refine wpAny_bind (wpAny_pure ?_) | skip
  refine wpAny_bind (wpAny_sequenceKey ht.typeIs (by decide) ?_)
  refine wpAny_bind (wpAny_callSpecial?_slot (name := Str.ofString "__getitem__") ht.typeIs PyProof.Rows.slot_tuple_getitem
    (wpAny_call_entry PyProof.Rows.slot_tuple_getitem ht.typeIs entry_tuple_getitem ?_ (args_tuple_getitem _ _)))
  show wpAny _ _ (Builtin.Tuple.tupleItemsOf (.ref t) >>= _) _ _ s
  refine wpAny_bind (tupleItemsOf_ ht ?_)
  refine wpAny_bind (wpAny_typeOf hTs ?_)
  rw [if_pos (by decide)]
  refine wpAny_bind (sliceApplied_gen hs pl pu ?_)
  have hno : ¬ ((((sIx items.size 0 lo : Nat) : Int) == 0 && (1 : Int) == 1 && (sIx items.size items.size hi - sIx items.size 0 lo) == items.size) = true) := by
    intro q
    rw [Bool.and_eq_true, Bool.and_eq_true] at q
    have q1 : ((sIx items.size 0 lo : Nat) : Int) = 0 := eq_of_beq q.1.1
    have q2 : sIx items.size items.size hi - sIx items.size 0 lo = items.size := eq_of_beq q.2
    exact hw ⟨by omega, by omega⟩
  show wpAny _ _ (if (((sIx items.size 0 lo : Nat) : Int) == 0 && (1 : Int) == 1 && (sIx items.size items.size hi - sIx items.size 0 lo) == items.size) = true then _ else _) _ _ s
  rw [if_neg hno, pick_gen]
  first
    | exact wpAny_bind (m := Builtin.Tuple.tupleExact _) (wpAny_newObj_type (wpAny_pure ⟨_, rfl, wpAny_pure h⟩) htake)
    | exact wpAny_bind (m := Builtin.Tuple.tupleExact _) (wpAny_newObj_type (wpAny_bind (wpAny_pure (wpAny_pure ⟨_, rfl, wpAny_pure h⟩))) htake)
    | exact wpAny_bind (wpAny_bind (m := Builtin.Tuple.tupleExact _) (wpAny_newObj_type (wpAny_pure (wpAny_pure ⟨_, rfl, wpAny_pure h⟩)) htake))
    | exact wpAny_bind (wpAny_bind (m := Builtin.Tuple.tupleExact _) (wpAny_newObj_type (wpAny_pure ⟨_, rfl, wpAny_pure h⟩) htake))
end
end HT
namespace L2
open PySem PySem.Spec PyProof.Rows
abbrev TO := St -> Hp -> (Option Int -> Hp -> Prop) -> Prop
def PO (X : Cx) (e : Option Expr) (t : TO) : Prop :=
  ∀ (pins : List (Addr × Obj)) (s : Shared) (σ : St) (H : Hp) (Q : Option Int -> Hp -> Prop), Inv X pins σ H s -> t σ H Q ->
    wpAny (model X.prog X.w) X.A (evalPart e X.env) (fun u s' => ∃ o H', Inv X pins σ H' s' /\ IsPart u o /\ Q o H') X.xe s
def tNoPart : TO := fun _ H Q => Q none H
def tPart (t : TE) : TO := fun σ H Q => t σ H fun x H1 => ∃ i, x = .int i /\ Q (some i) H1
theorem intsAre_of {ns : List Int} : ∀ {us : List Value}, Vals (ns.map V.int) us -> IntsAre us ns := by
  induction ns with
  | nil => intro us r; rw [List.map_nil] at r; cases r; exact .nil
  | cons n ns ih =>
    intro us r
    rw [List.map_cons] at r
    cases r with
    | cons r1 r2 =>
      obtain ⟨t, e⟩ := r1
      subst e
      exact .cons n t (ih r2)
section
variable {X : Cx} {e : Expr} {te : TE} {lo hi : Option Expr} {tl th : TO} {pos p2 : Pos}
theorem po_none : PO X none tNoPart := by
  intro pins s σ H Q I h
  rw [evalPart_none]
  exact wpAny_pure ⟨none, H, I, .none, h⟩
theorem po_some (h : PE X e te) : PO X (some e) (tPart te) := by
  intro pins s σ H Q I hw
  rw [evalPart_some]
  refine thn (h pins s σ H _ I hw) fun u s1 ⟨x, H1, I1, r1, q1⟩ => ?_
  obtain ⟨i, rfl, q⟩ := q1
  obtain ⟨t, rfl⟩ := r1
  exact ⟨some i, H1, I1, .int i t, q⟩
def SlR (X : Cx) (r : V -> Option Int -> Option Int -> Hp -> VK -> Prop) : Prop :=
  ∀ (pins : List (Addr × Obj)) (s : Shared) (σ : St) (H : Hp) (x : V) (v vl vu : Value) (lo hi : Option Int) (sl : Addr) (Q : VK), Inv X pins σ H s -> RelV x v -> s.heap.IsSliceOf sl vl vu .none -> IsPart vl lo -> IsPart vu hi -> r x lo hi H Q ->
    ∃ T id, typeLookup (.type T) "__getitem__" = pure (some (.builtin id)) /\ s.TypeIs v T /\ wpAny (model X.prog X.w) X.A (getItem v (.ref sl)) (EP X pins σ Q) X.xe s
def tSl (r : V -> Option Int -> Option Int -> Hp -> VK -> Prop) (te : TE) (tl th : TO) : TE := fun σ H Q => te σ H fun x H1 => tl σ H1 fun l H2 => th σ H2 fun u H3 => r x l u H3 Q
theorem pe_slice {r : V -> Option Int -> Option Int -> Hp -> VK -> Prop} (hr : SlR X r) (he : PE X e te) (hl : PO X lo tl) (hu : PO X hi th) : PE X (.Subscript e (.Slice lo hi none p2) pos) (tSl r te tl th) := by
  intro pins s σ H Q I h
  refine Subscript_ (thn (he pins s σ H _ I h) fun v s1 ⟨x, H1, I1, r1, q1⟩ => ?_)
  refine wpAny_Slice (thn (hl pins s1 σ H1 _ I1 q1) fun vl s2 ⟨l, H2, I2, pl, q2⟩ => thn (hu pins s2 σ H2 _ I2 q2) fun vu s3 ⟨u, H3, I3, pu, q3⟩ => ?_)
  rw [evalPart_none]
  refine wpAny_pure ?_
  have I4 : Inv X pins σ H3 { s3 with heap := s3.heap.push { cls := .type "slice", data := .fields #[vl, vu, .none] } } := I3.kept (t' := s3.toks) fun b ob q => Heap.get?_push_of_some _ q
  obtain ⟨T, id, hT, ht, hg⟩ := hr pins { s3 with heap := s3.heap.push { cls := .type "slice", data := .fields #[vl, vu, .none] } } σ H3 x v vl vu l u s3.heap.objs.size Q I4 r1 (Heap.IsSliceOf.new ..) pl pu q3
  show wpAny (model X.prog X.w) X.A (subscriptTail e (.Slice lo hi none p2) v (.ref s3.heap.objs.size)) (EP X pins σ Q) X.xe { s3 with heap := s3.heap.push { cls := .type "slice", data := .fields #[vl, vu, .none] } }
  exact tail_any (ops := [.ref s3.heap.objs.size, v]) ht hT hg (by with_unfolding_all rfl)
def cutV (xs : List V) (lo hi : Option Int) : List V := (xs.drop (HT.sIx xs.length 0 lo)).take (HT.sIx xs.length xs.length hi - HT.sIx xs.length 0 lo)
theorem cutV_length (xs : List V) (lo hi : Option Int) : (cutV xs lo hi).length <= xs.length := by
  unfold cutV
  rw [List.length_take, List.length_drop]
  omega
def rSlT (K : PySem.W.Frag) : V -> Option Int -> Option Int -> Hp -> VK -> Prop := fun x lo hi H Q => ∃ a xs, x = .ref a /\ SqT K H a xs /\
  ¬ (HT.sIx xs.length 0 lo = 0 /\ HT.sIx xs.length xs.length hi = xs.length) /\ ∀ p, H p = none -> Q (.ref p) (upd H p (.tup (cutV xs lo hi)))
theorem sl_tup : SlR X (rSlT X.K) := by
  intro pins s σ H x v vl vu lo hi sl Q I rx hs pl pu h
  obtain ⟨a, xs, rfl, hx, hw, q⟩ := h
  cases rx
  obtain ⟨its, r, ht, hz⟩ := I.tuple hx
  have hlen : its.toArray.size = xs.length := by rw [List.size_toArray]; exact r.length.symm
  refine ⟨"tuple", _, PyProof.Rows.slot_tuple_getitem.lookup, ht.typeIs, ?_⟩
  refine HT.getItem_tuple_cut ht hs pl pu (by rw [hlen]; exact hw) ?_ (by rw [hlen]; exact hz)
  rw [hlen]
  refine ⟨.ref s.heap.objs.size, _, I.laid (t' := s.toks) (o := .tup (cutV xs lo hi)) (fun b ob q => Heap.get?_push_of_some _ q) (Nat.le_refl _) ?_, rfl, q _ (I.hok.fresh (Nat.le_refl _))⟩
  exact ⟨Nat.le_trans (cutV_length xs lo hi) hz, _, (r.drop (HT.sIx xs.length 0 lo)).take (HT.sIx xs.length xs.length hi - HT.sIx xs.length 0 lo), IsTup.new _ _⟩
def rCatT (K : PySem.W.Frag) : R2 := fun x y H Q => ∃ a b xs ys, x = .ref a /\ y = .ref b /\ SqT K H a xs /\ SqT K H b ys /\ xs ≠ [] /\ xs.length + ys.length <= sizeLine /\
  (ys = [] -> Q (.ref a) H) /\ (ys ≠ [] -> ∀ p, H p = none -> Q (.ref p) (upd H p (.tup (xs ++ ys))))
theorem Vals.nil_iff {xs : List V} {us : List Value} (r : Vals xs us) : us = [] ↔ xs = [] := by
  cases r with
  | nil => simp
  | cons _ _ => simp
theorem op_catT : OpR X (binaryOp .Add) (rCatT X.K) := by
  intro pins s σ H x y v u Q I rx ry h
  obtain ⟨a, b, xs, ys, rfl, rfl, ha, hb, hx, hz, q1, q2⟩ := h
  cases rx
  cases ry
  obtain ⟨its, r1, p1, _⟩ := I.tuple ha
  obtain ⟨its2, r2, p2, _⟩ := I.tuple hb
  refine HT.cat_tup p1 p2 (fun z => hx (r1.nil_iff.mp z)) (fun z => ⟨.ref a, H, I, rfl, q1 (r2.nil_iff.mp z)⟩) (fun z => ?_) (by rw [<- r1.length, <- r2.length]; exact hz)
  refine ⟨.ref s.heap.objs.size, _, I.laid (t' := s.toks) (o := .tup (xs ++ ys)) (fun b ob q => Heap.get?_push_of_some _ q) (Nat.le_refl _) ?_, rfl, q2 (fun w => z (r2.nil_iff.mpr w)) _ (I.hok.fresh (Nat.le_refl _))⟩
  exact ⟨by rw [List.length_append]; exact hz, _, r1.append r2, IsTup.new _ _⟩
end
end L2
namespace L2
open PySem PySem.Spec PyProof.Rows
def ixN (n : Nat) (i : Int) : Option Nat := if 0 <= i then (if i < n then some i.toNat else none) else if -(n : Int) <= i then some (i + n).toNat else none
def atI {α : Type} (xs : List α) (i : Int) : Option α := (ixN xs.length i).bind fun j => xs[j]?
theorem ixN_seq {n : Nat} {i : Int} {j : Nat} (h : ixN n i = some j) : seqIndex? i n = some j /\ j < n /\ -(n : Int) <= i /\ i < n := by
  unfold ixN at h
  by_cases h0 : 0 <= i
  · rw [if_pos h0] at h
    by_cases h1 : i < n
    · rw [if_pos h1] at h
      have e : i.toNat = j := Option.some.inj h
      exact ⟨by rw [seqIndex_of h0 h1, e], by omega, by omega, h1⟩
    · rw [if_neg h1] at h; cases h
  · rw [if_neg h0] at h
    by_cases h1 : -(n : Int) <= i
    · rw [if_pos h1] at h
      have e : (i + n).toNat = j := Option.some.inj h
      exact ⟨by rw [seqIndex_neg (by omega) h1, e], by omega, h1, by omega⟩
    · rw [if_neg h1] at h; cases h
theorem atI_get {α : Type} {xs : List α} {i : Int} {v : α} (h : atI xs i = some v) : ∃ j, seqIndex? i xs.length = some j /\ xs[j]? = some v /\ j < xs.length /\ -(xs.length : Int) <= i /\ i < xs.length := by
  unfold atI at h
  cases e : ixN xs.length i with
  | none => rw [e] at h; cases h
  | some j =>
    rw [e] at h
    obtain ⟨h1, h2, h3, h4⟩ := ixN_seq e
    exact ⟨j, h1, h, h2, h3, h4⟩
theorem atI_nat {α : Type} {xs : List α} {j : Nat} {v : α} (h : xs[j]? = some v) : atI xs (j : Int) = some v := by
  have hj : j < xs.length := (List.getElem?_eq_some_iff.mp h).1
  have e : ixN xs.length (j : Int) = some j := by
    unfold ixN
    rw [if_pos (by omega), if_pos (by omega)]; simp
  unfold atI; rw [e]; exact h
def PlainIx (b : Expr) : Prop := ∀ o i, subscripted b false o i = operate [o, i] (getItem o i)
def IxR (X : Cx) (r : R2) : Prop :=
  ∀ (value slice : Expr) (pins : List (Addr × Obj)) (s : Shared) (σ : St) (H : Hp) (x y : V) (v u : Value) (Q : VK), Inv X pins σ H s -> RelV x v -> RelV y u -> r x y H Q ->
    subscripted slice false v u = operate [v, u] (getItem v u) -> wpAny (model X.prog X.w) X.A (subscriptTail value slice v u) (EP X pins σ Q) X.xe s
def MtR (X : Cx) (id : String) (r : V -> List V -> Hp -> VK -> Prop) : Prop :=
  ∀ (pins : List (Addr × Obj)) (s : Shared) (σ : St) (H : Hp) (x : V) (xs : List V) (v : Value) (us : List Value) (Q : VK), Inv X pins σ H s -> RelV x v -> Vals xs us -> r x xs H Q ->
    wpAny (model X.prog X.w) X.A (call (.builtin id) (v :: us)) (EP X pins σ Q) X.xe s
section
variable {X : Cx} {a b : Expr} {ta tb : TE} {pos : Pos}
theorem pe_ix {r : R2} (hr : IxR X r) (ha : PE X a ta) (hb : PE X b tb) (hs : PlainIx b) : PE X (.Subscript a b pos) (tOp r ta tb) := by
  intro pins s σ H Q I h
  exact Subscript_ (binT ha hb I h fun v u s2 x y H2 I2 rx ry q => hr a b pins s2 σ H2 x y v u Q I2 rx ry q (hs _ _))
def rIxL (K : PySem.W.Frag) : R2 := fun x y H Q => ∃ p xs i v, x = .ref p /\ y = .int i /\ SqL K H p xs /\ atI xs i = some v /\ Q v H
def rIxT (K : PySem.W.Frag) : R2 := fun x y H Q => ∃ p xs i v, x = .ref p /\ y = .int i /\ SqT K H p xs /\ atI xs i = some v /\ Q v H
def rIxS : R2 := fun x y H Q => ∃ z i c, x = .str z /\ y = .int i /\ z.length <= sizeLine /\ atI z.cps.toList i = some c /\ Q (.str ⟨#[c]⟩) H
theorem ix_list : IxR X (rIxL X.K) := by
  intro value slice pins s σ H x y v u Q I rx ry h hs
  obtain ⟨p, xs, i, z, rfl, rfl, hq, he, q⟩ := h
  cases rx
  obtain ⟨t, rfl⟩ := ry
  obtain ⟨its, r, pl, hz⟩ := I.list hq
  obtain ⟨j, h1, h2, h3, h4, h5⟩ := atI_get he
  obtain ⟨w, ew, rw'⟩ := r.get h2
  have hl := r.length
  have hn := line63
  have fin : EP X pins σ Q w s := ⟨z, H, I, rw', q⟩
  by_cases h0 : 0 <= i
  · have hj : i.toNat = j := by
      rw [seqIndex_of h0 h5] at h1
      exact Option.some.inj h1
    exact item_listR pl.isList h0 (by omega) (by rw [hj]; simpa using ew) fin hs
  · have hj : (i + (its.toArray.size : Int)).toNat = j := by
      rw [seqIndex_neg (by omega) h4] at h1
      rw [List.size_toArray, <- hl]
      exact Option.some.inj h1
    exact subscriptTail_builtinR (x := w) pl.isList.typeIs slot_list_getitem.lookup
      (wpAny_getItem_list_neg (Q := fun r s' => r = w /\ EP X pins σ Q r s') pl.isList (by omega) (by rw [List.size_toArray] <;> omega) (by omega) (by rw [hj]; simpa using ew) ⟨rfl, fin⟩) hs
theorem ix_tup : IxR X (rIxT X.K) := by
  intro value slice pins s σ H x y v u Q I rx ry h hs
  obtain ⟨p, xs, i, z, rfl, rfl, hq, he, q⟩ := h
  cases rx
  obtain ⟨t, rfl⟩ := ry
  obtain ⟨its, r, pl, hz⟩ := I.tuple hq
  obtain ⟨j, h1, h2, h3, h4, h5⟩ := atI_get he
  obtain ⟨w, ew, rw'⟩ := r.get h2
  have hl := r.length
  have hn := line63
  have fin : EP X pins σ Q w s := ⟨z, H, I, rw', q⟩
  exact subscriptTail_builtinR (x := w) pl.typeIs slot_tuple_getitem.lookup
    (getItem_tuple (j := j) (Q := fun r s' => r = w /\ EP X pins σ Q r s') pl (by omega) (by omega) (by rw [List.size_toArray, <- hl]; exact h1) (by simpa using ew) ⟨rfl, fin⟩) hs
theorem ix_str : IxR X rIxS := by
  intro value slice pins s σ H x y v u Q I rx ry h hs
  obtain ⟨z, i, c, rfl, rfl, hz, he, q⟩ := h
  obtain ⟨t, rfl⟩ := rx
  obtain ⟨t', rfl⟩ := ry
  obtain ⟨j, h1, h2, h3, h4, h5⟩ := atI_get he
  have hl : z.cps.toList.length = z.length := by simp [Str.length]
  rw [hl] at h1 h4 h5
  have hn := line63
  exact tail_any (typeIs_str s z t) slot_str_getitem.lookup (getItem_str (c := c) (by
    have e1 : decide (i < -(2 ^ 63 : Int)) = false := decide_eq_false (by omega)
    have e2 : decide (i >= 2 ^ 63) = false := decide_eq_false (by omega)
    rw [e1, e2, Bool.or_false]) (by rw [h1]; simpa using h2) ⟨.str ⟨#[c]⟩, H, I.tok _, ⟨_, rfl⟩, q⟩) hs
theorem mapSeq_set (its : List Value) (n j : Nat) (u : Value) : Obj.mapSeq (·.setIfInBounds j u) { cls := .type "list", data := .seq its.toArray n } = { cls := .type "list", data := .seq (its.set j u).toArray n } := by
  simp [Obj.mapSeq]
theorem Inv.lst {pins : List (Addr × Obj)} {σ : St} {H : Hp} {s : Shared} {p : Addr} {xs : List V} (I : Inv X pins σ H s) (h : H p = some (.lst xs)) :
    ∃ (its : List Value) (n : Nat), Vals xs its /\ s.heap.get? p = some { cls := .type "list", data := .seq its.toArray n } /\ xs.length <= sizeLine := by
  obtain ⟨z, its, n, r, e⟩ := I.hok p _ h
  exact ⟨its, n, r, e, z⟩
theorem Inv.lstUpd {pins : List (Addr × Obj)} {σ : St} {H : Hp} {s : Shared} {p : Addr} {xs ys : List V} {its its' : List Value} {n n' : Nat} {f : Obj -> Obj} (I : Inv X pins σ H s) (h : H p = some (.lst xs))
    (ho : s.heap.get? p = some { cls := .type "list", data := .seq its.toArray n }) (hf : f { cls := .type "list", data := .seq its.toArray n } = { cls := .type "list", data := .seq its'.toArray n' }) (r : Vals ys its') (hz : ys.length <= sizeLine) (t : Nat) :
    Inv X pins σ (upd H p (.lst ys)) { s with heap := s.heap.update p f, toks := t } := by
  have e : (s.heap.update p f).get? p = some { cls := .type "list", data := .seq its'.toArray n' } := by
    rw [Heap.get?_update_self f ho (by rw [hf] <;> rfl), hf]
  refine I.write (x := p) (e := p) (by rw [h]; trivial) (.inl rfl) (fun b u hb q => (Heap.get?_update_other _ _ (Ne.symm hb)).trans q) ⟨_, e⟩ ?_
  exact ⟨hz, its', n', r, e⟩
def rSetL : V -> V -> V -> Hp -> (Hp -> Prop) -> Prop := fun o i v H Q => ∃ p xs k j, o = .ref p /\ i = .int k /\ H p = some (.lst xs) /\ ixN xs.length k = some j /\ Q (upd H p (.lst (xs.set j v)))
theorem set_list : PSet X rSetL := by
  intro pins s σ H o i v ov iv u Q I ro ri rv h
  obtain ⟨p, xs, k, j, rfl, rfl, hp, hj, q⟩ := h
  cases ro
  obtain ⟨t, rfl⟩ := ri
  obtain ⟨its, n, r, ho, hz⟩ := I.lst hp
  obtain ⟨h1, h2, h3, h4⟩ := ixN_seq hj
  have hl := r.length
  have hn := line63
  have I' : Inv X pins σ (upd H p (.lst (xs.set j v))) { s with heap := s.heap.update p (Obj.mapSeq (·.setIfInBounds j u)) } :=
    I.lstUpd hp ho (mapSeq_set its n j u) (r.set rv j) (by rw [List.length_set]; exact hz) s.toks
  by_cases h0 : 0 <= k
  · have hk : k.toNat = j := by
      rw [seqIndex_of h0 h4] at h1
      exact Option.some.inj h1
    exact PySem.W.ki_setAt ho h0 (by omega) (by rw [List.size_toArray, <- hl]; exact h4) (by rw [hk]; exact ⟨_, I', q⟩)
  · have hk : (k + (its.toArray.size : Int)).toNat = j := by
      rw [seqIndex_neg (by omega) h3] at h1
      rw [List.size_toArray, <- hl]
      exact Option.some.inj h1
    exact PySem.W.ki_setBack ho (by omega) (by rw [List.size_toArray, <- hl]; exact h3) (by omega) (by rw [hk]; exact ⟨_, I', q⟩)
theorem slice_bounds (lo hi : Option Int) (n : Nat) : (sliceBounds lo hi none n).1 = ((HT.sIx n 0 lo : Nat) : Int) /\ (sliceBounds lo hi none n).2.1 = ((HT.sIx n n hi : Nat) : Int) /\ (sliceBounds lo hi none n).2.2 = 1 := by
  refine ⟨?_, ?_, rfl⟩
  · cases lo with
    | none => simp [sliceBounds, HT.sIx]
    | some i =>
      simp only [sliceBounds, HT.sIx, Option.getD_none, show (1 : Int) > 0 by decide, if_true]
      by_cases h : i < 0
      · simp only [h, if_true] <;> omega
      · simp only [h, if_false] <;> omega
  · cases hi with
    | none => simp [sliceBounds, HT.sIx]
    | some i =>
      simp only [sliceBounds, HT.sIx, Option.getD_none, show (1 : Int) > 0 by decide, if_true]
      by_cases h : i < 0
      · simp only [h, if_true] <;> omega
      · simp only [h, if_false] <;> omega
theorem slicePick_cut (its : List Value) (lo hi : Option Int) : slicePick its.toArray lo hi none = ((its.drop (HT.sIx its.length 0 lo)).take (HT.sIx its.length its.length hi - HT.sIx its.length 0 lo)).toArray := by
  obtain ⟨h1, h2, h3⟩ := slice_bounds lo hi its.toArray.size
  unfold slicePick
  rw [h1, h2, h3]
  simp only [sliceRange_one, pick_run, List.size_toArray] <;> rfl
def rSlL (K : PySem.W.Frag) : V -> Option Int -> Option Int -> Hp -> VK -> Prop := fun x lo hi H Q => ∃ a xs, x = .ref a /\ SqL K H a xs /\ ∀ p, H p = none -> Q (.ref p) (upd H p (.lst (cutV xs lo hi)))
theorem sl_list : SlR X (rSlL X.K) := by
  intro pins s σ H x v vl vu lo hi sl Q I rx hs pl pu h
  obtain ⟨a, xs, rfl, hx, q⟩ := h
  cases rx
  obtain ⟨its, r, ht, hz⟩ := I.list hx
  have hlen := r.length
  refine ⟨"list", _, slot_list_getitem.lookup, ht.isList.typeIs, ?_⟩
  refine wpAny_getItem_list_slice ht.isList hs pl pu .none (by simp) ?_ (by rw [List.size_toArray] <;> omega)
  rw [slicePick_cut, <- hlen]
  refine ⟨.ref s.heap.objs.size, _, I.laid (t' := s.toks) (o := .lst (cutV xs lo hi)) (fun b ob q => Heap.get?_push_of_some _ q) (Nat.le_refl _) ?_, rfl, q _ (I.hok.fresh (Nat.le_refl _))⟩
  exact ⟨Nat.le_trans (cutV_length xs lo hi) hz, _, 0, (r.drop (HT.sIx xs.length 0 lo)).take (HT.sIx xs.length xs.length hi - HT.sIx xs.length 0 lo), Heap.get?_push_size _ rfl⟩
def flatV : V -> Bool
  | .non => true
  | .bl _ => true
  | .int _ => true
  | .str _ => true
  | _ => false
def eqV : V -> V -> Bool
  | .non, .non => true
  | .bl a, .bl b => a == b
  | .bl a, .int b => (if a then 1 else 0) == b
  | .int a, .bl b => a == (if b then 1 else 0)
  | .int a, .int b => a == b
  | .str a, .str b => a == b
  | _, _ => false
theorem eqAt_V {A : Around} {s : Shared} {y x : V} {u v : Value} (ry : RelV y u) (rx : RelV x v) (fy : flatV y = true) (fx : flatV x = true) : SeqAt.EqAt A s u v (eqV y x) := by
  cases y with
  | non =>
    cases ry
    cases x with
    | non => cases rx; exact SeqAt.EqAt.same _
    | bl b => cases rx; exact SeqAt.EqAt.none_bool b
    | int b => obtain ⟨t, rfl⟩ := rx; exact SeqAt.EqAt.none_int b t
    | str b => obtain ⟨t, rfl⟩ := rx; exact SeqAt.EqAt.none_str b t
    | _ => exact absurd (show false = true from fx) Bool.false_ne_true
  | bl a =>
    cases ry
    cases x with
    | non => cases rx; exact SeqAt.EqAt.bool_none a
    | bl b => cases rx; exact SeqAt.EqAt.bool_bool a b
    | int b => obtain ⟨t, rfl⟩ := rx; exact SeqAt.EqAt.bool_int a b t
    | str b => obtain ⟨t, rfl⟩ := rx; exact SeqAt.EqAt.bool_str a b t
    | _ => exact absurd (show false = true from fx) Bool.false_ne_true
  | int a =>
    obtain ⟨t', rfl⟩ := ry
    cases x with
    | non => cases rx; exact SeqAt.EqAt.int_none a t'
    | bl b => cases rx; exact SeqAt.EqAt.int_bool a t' b
    | int b => obtain ⟨t, rfl⟩ := rx; exact SeqAt.EqAt.int_int a t' b t
    | str b => obtain ⟨t, rfl⟩ := rx; exact SeqAt.EqAt.int_str a t' b t
    | _ => exact absurd (show false = true from fx) Bool.false_ne_true
  | str a =>
    obtain ⟨t', rfl⟩ := ry
    cases x with
    | non => cases rx; exact SeqAt.EqAt.str_none a t'
    | bl b => cases rx; exact SeqAt.EqAt.str_bool a t' b
    | int b => obtain ⟨t, rfl⟩ := rx; exact SeqAt.EqAt.str_int a t' b t
    | str b => obtain ⟨t, rfl⟩ := rx; exact SeqAt.EqAt.str_str a t' b t
    | _ => exact absurd (show false = true from fx) Bool.false_ne_true
  | _ => exact absurd (show false = true from fy) Bool.false_ne_true
theorem call_len_seq : CallR X (.builtin "len") (fun xs H Q => ∃ p ys, xs = [.ref p] /\ (SqL X.K H p ys \/ SqT X.K H p ys) /\ Q (.int ys.length) H) := by
  intro pins s σ H xs us Q I r h
  obtain ⟨p, ys, rfl, hq, q⟩ := h
  obtain ⟨u, rfl, rx⟩ := vals1 r
  cases rx
  have hn := line63
  rcases hq with hq | hq
  · obtain ⟨its, r', pl, hz⟩ := I.list hq
    have hlen := r'.length
    exact Calls.call_len_list pl.isList (by simp only [List.size_toArray] <;> omega) ⟨.int ys.length, H, I.tok _, ⟨s.toks + 1, by rw [List.size_toArray, hlen]⟩, q⟩
  · obtain ⟨its, r', pl, hz⟩ := I.tuple hq
    have hlen := r'.length
    exact len_tuple pl (by simp only [List.size_toArray] <;> omega) ⟨.int ys.length, H, I.tok _, ⟨s.toks + 1, by rw [List.size_toArray, hlen]⟩, q⟩
theorem call_len_str : CallR X (.builtin "len") (fun xs H Q => ∃ z, xs = [.str z] /\ z.length <= sizeLine /\ Q (.int z.length) H) := by
  intro pins s σ H xs us Q I r h
  obtain ⟨z, rfl, hz, q⟩ := h
  obtain ⟨u, rfl, t, rfl⟩ := vals1 r
  have hn := line63
  exact len_str (by omega) ⟨.int z.length, H, I.tok _, ⟨_, rfl⟩, q⟩
theorem CallR.or {f : Value} {r r' : List V -> Hp -> VK -> Prop} (h : CallR X f r) (h' : CallR X f r') : CallR X f (fun xs H Q => r xs H Q \/ r' xs H Q) := by
  intro pins s σ H xs us Q I rs q
  rcases q with q | q
  · exact h pins s σ H xs us Q I rs q
  · exact h' pins s σ H xs us Q I rs q
theorem call_tuple_of : CallR X (.type "tuple") (fun xs H Q => ∃ p ys, xs = [.ref p] /\ ((SqL X.K H p ys /\ ∀ l, H l = none -> Q (.ref l) (upd H l (.tup ys))) \/ (SqT X.K H p ys /\ Q (.ref p) H))) := by
  intro pins s σ H xs us Q I r h
  obtain ⟨p, ys, rfl, h⟩ := h
  obtain ⟨u, rfl, rx⟩ := vals1 r
  cases rx
  rcases h with ⟨hq, q⟩ | ⟨hq, q⟩
  · obtain ⟨its, r', pl, hz⟩ := I.list hq
    have hlen := r'.length
    refine call_tuple_list pl.isList (fun h' kp => ?_) (by simp only [List.size_toArray] <;> omega)
    have I1 : Inv X pins σ H { s with heap := h' } := I.kept (t' := s.toks) kp
    have I2 : Inv X pins σ (upd H h'.objs.size (.tup ys)) { s with heap := h'.push { cls := .type "tuple", data := .seq its.toArray } } :=
      I1.laid (t' := s.toks) (fun b o e => Heap.get?_push_of_some _ e) (Nat.le_refl _) (show ObjOk X.prog X.w _ _ _ (.tup ys) from ⟨hz, its, r', IsTup.new _ _⟩)
    exact ⟨.ref h'.objs.size, _, I2, rfl, q _ (I1.hok.fresh (Nat.le_refl _))⟩
  · obtain ⟨its, r', pl, hz⟩ := I.tuple hq
    exact call_tuple_same pl ⟨.ref p, H, I, rfl, q⟩
def tyV (K : PySem.W.Frag) (T : String) (x : V) (H : Hp) : Prop := match x with
  | .str _ => T = "str"
  | .int _ => T = "int"
  | .ref p => (T = "list" /\ ∃ xs, SqL K H p xs) \/ (T = "tuple" /\ ∃ o, K.lookup p = some o /\ o.cls = .type "tuple" /\ o.dict = none) \/
      (T = "dict" /\ ((∃ kvs, H p = some (.dK kvs)) \/ ∃ kvs, H p = some (.dT kvs))) \/ (T = "set" /\ ∃ S n, H p = some (.set S n))
  | _ => False
theorem tyV_is {pins : List (Addr × Obj)} {σ : St} {H : Hp} {s : Shared} {T : String} {x : V} {v : Value} (I : Inv X pins σ H s) (r : RelV x v) (ty : tyV X.K T x H) :
    s.TypeIs v T /\ ∀ a, v = .ref a -> ∃ ob, s.heap.get? a = some ob /\ ob.dict = none := by
  cases x with
  | str z =>
    obtain ⟨t, rfl⟩ := r
    cases (show T = "str" from ty)
    exact ⟨typeIs_str s z t, fun _ e => nomatch e⟩
  | int i =>
    obtain ⟨t, rfl⟩ := r
    cases (show T = "int" from ty)
    exact ⟨typeIs_int s i t, fun _ e => nomatch e⟩
  | ref p =>
    cases r
    rcases ty with ⟨rfl, xs, hq⟩ | ⟨rfl, o, hk, hc, hd⟩ | ⟨rfl, hk⟩ | ⟨rfl, S, n, hk⟩
    · obtain ⟨its, _, pl, _⟩ := I.list hq
      refine ⟨pl.isList.typeIs, fun a e => ?_⟩
      cases e
      obtain ⟨o, n, e, c, hd, _⟩ := pl
      exact ⟨o, e, hd⟩
    · refine ⟨⟨o, I.kIn p o hk, hc⟩, fun a e => ?_⟩
      cases e
      exact ⟨o, I.kIn _ o hk, hd⟩
    · have z : ∃ o, s.heap.get? p = some o /\ o.ExactDict := by
        rcases hk with ⟨kvs, hk⟩ | ⟨kvs, hk⟩
        · obtain ⟨_, _, _, _, o, _, _, e, ex, _⟩ := I.hok p _ hk
          exact ⟨o, e, ex⟩
        · obtain ⟨_, _, _, _, o, _, _, e, ex, _⟩ := I.hok p _ hk
          exact ⟨o, e, ex⟩
      obtain ⟨o, e, ex⟩ := z
      refine ⟨⟨o, e, ex.1⟩, fun a e2 => ?_⟩
      cases e2
      exact ⟨o, e, ex.2.1⟩
    · obtain ⟨o, _, _, _, e, ex, _⟩ := I.hok p _ hk
      refine ⟨⟨o, e, ex.1⟩, fun a e2 => ?_⟩
      cases e2
      exact ⟨o, e, ex.2.1⟩
  | _ => exact False.elim ty
def tBM0 (K : PySem.W.Frag) (T : String) (r : V -> List V -> Hp -> VK -> Prop) (to : TE) : TE := fun σ H Q => to σ H fun x H1 => tyV K T x H1 /\ r x [] H1 Q
def tBM (K : PySem.W.Frag) (T : String) (r : V -> List V -> Hp -> VK -> Prop) (to : TE) (t : TA) : TE := fun σ H Q => to σ H fun x H1 => tyV K T x H1 /\ t σ H1 fun xs H2 => r x xs H2 Q
variable {o e : Expr} {es : List Expr} {to : TE} {t : TA} {name : Str} {apos cpos : Pos} {T id : String} {r : V -> List V -> Hp -> VK -> Prop}
theorem pe_bm0 (pa : PlainAttrs T) (slot : Slot T name id) (hty : typeOf (.builtin id) = pure (.type "method_descriptor")) (hm : MtR X id r) (ho : PE X o to)
    (hbase : attributeBase o name X.env (eval o X.env) = eval o X.env := by rfl) (hline : (apos.endLine == cpos.line) = true := by rfl) : PE X (.Call (.Attribute o name apos) [] [] cpos) (tBM0 X.K T r to) := by
  intro pins s σ H Q I h
  refine wpAny_Call_method0_late hbase hline (thn (ho pins s σ H _ I h) fun v s1 ⟨x, H1, I1, r1, ty, q1⟩ => ?_)
  obtain ⟨h1, h2⟩ := tyV_is I1 r1 ty
  exact ⟨T, id, pa, slot, hty, h1, h2, Calls.callWith_builtin rfl (PySem.evalArgs_none (hm pins s1 σ H1 x [] v [] Q I1 r1 .nil q1))⟩
theorem pe_bm (pa : PlainAttrs T) (slot : Slot T name id) (hty : typeOf (.builtin id) = pure (.type "method_descriptor")) (hm : MtR X id r) (ho : PE X o to) (ha : PA X (e :: es) t)
    (hbase : attributeBase o name X.env (eval o X.env) = eval o X.env := by rfl)
    (hfew : ((backTo cpos (starEach (e :: es) X.env)).all (fun x => !x.1) && (backToKw cpos (keywordEach [] X.env)).all (fun x => x.1.isSome)
      && decide ((e :: es).length + ([] : List Keyword).length + (if ([] : List Keyword).isEmpty then 0 else 1) < 30)) = true := by rfl)
    (hline : (apos.endLine == cpos.line) = true := by rfl) (hs : starEach (e :: es) X.env = (false, eval e X.env) :: starEach es X.env := by rfl) (hplain : (backTo cpos (starEach es X.env)).any (·.1) = false := by rfl) :
    PE X (.Call (.Attribute o name apos) (e :: es) [] cpos) (tBM X.K T r to t) := by
  intro pins s σ H Q I h
  refine wpAny_Call_method_late hbase hfew hline rfl (thn (ho pins s σ H _ I h) fun v s1 ⟨x, H1, I1, r1, ty, q1⟩ => ?_)
  obtain ⟨h1, h2⟩ := tyV_is I1 r1 ty
  refine ⟨T, id, pa, slot, hty, h1, h2, ?_⟩
  have hA := ha cpos pins s1 σ H1 _ I1 q1
  rw [hs] at hA ⊢
  refine Calls.callWith_builtin (by show (false || (backTo cpos (starEach es X.env)).any (·.1)) = false; rw [hplain] <;> rfl) (Calls.evalArgs_plain ?_)
  exact thn hA fun us s2 ⟨vs, H2, I2, r2, q2⟩ => hm pins s2 σ H2 x vs v us Q I2 r1 r2 q2
end
end L2
namespace L2
open PySem PySem.Spec PyProof.Rows
def MtM (X : Cx) (id : String) (r : V -> List V -> Hp -> VK -> Prop) : Prop :=
  ∀ (pins : List (Addr × Obj)) (s : Shared) (σ : St) (H : Hp) (x : V) (xs : List V) (v : Value) (us : List Value) (Q : VK), Inv X pins σ H s -> RelV x v -> Vals xs us -> r x xs H Q ->
    wpAny (model X.prog X.w) X.A (call (.builtin id) (v :: us)) (EP X pins σ Q) X.xe s
theorem Vals.one : ∀ {x : V} {us : List Value}, Vals [x] us -> ∃ u, us = [u] /\ RelV x u
  | _, _, .cons r .nil => ⟨_, rfl, r⟩
theorem Vals.zero : ∀ {us : List Value}, Vals [] us -> us = []
  | _, .nil => rfl
theorem Vals.dropLast {xs : List V} {us : List Value} (h : Vals xs us) : Vals xs.dropLast us.dropLast := by
  induction h with
  | nil => exact .nil
  | cons r t ih =>
    cases t with
    | nil => exact .nil
    | cons q t' => exact .cons r ih
theorem Vals.reverse {xs : List V} {us : List Value} (h : Vals xs us) : Vals xs.reverse us.reverse := by
  induction h with
  | nil => exact .nil
  | cons r t ih => rw [List.reverse_cons, List.reverse_cons]; exact Vals.append ih (.cons r .nil)
theorem erase_last {α : Type} (l : List α) : l.eraseIdx (l.length - 1) = l.dropLast := by
  induction l with
  | nil => rfl
  | cons a r ih =>
    cases r with
    | nil => rfl
    | cons b r =>
      have e : (a :: b :: r).length - 1 = ((b :: r).length - 1) + 1 := by
        have h1 : (a :: b :: r).length = r.length + 2 := rfl
        have h2 : (b :: r).length = r.length + 1 := rfl
        omega
      rw [e, List.eraseIdx_cons_succ, ih]
      all_goals rfl
section
variable {X : Cx} {pins : List (Addr × Obj)} {σ : St} {H : Hp} {s : Shared} {l b : Addr} {xs ys zs : List V}
theorem Inv.lset {its its' : List Value} {n : Nat} {f : Array Value -> Array Value} {t' : Nat} (I : Inv X pins σ H s) (hH : H l = some (.lst xs))
    (e : s.heap.get? l = some { cls := .type "list", data := .seq its.toArray n }) (hf : f its.toArray = its'.toArray) (hv : Vals ys its') (hz : ys.length <= sizeLine) :
    Inv X pins σ (upd H l (.lst ys)) { s with heap := s.heap.update l (Obj.mapSeq f), toks := t' } := by
  have q := PySem.IsL.update e f
  rw [hf] at q
  refine I.write (x := l) (e := l) (by rw [hH]; exact trivial) (.inl rfl) (fun b' u hb hu => (Heap.get?_update_other s.heap (Obj.mapSeq f) (Ne.symm hb)).trans hu) ⟨_, q⟩ ?_
  exact ⟨hz, its', _, hv, q⟩
theorem Inv.lnew {its : List Value} {t' : Nat} (I : Inv X pins σ H s) (hv : Vals ys its) (hz : ys.length <= sizeLine) :
    Inv X pins σ (upd H s.heap.objs.size (.lst ys)) { s with heap := s.heap.push { cls := .type "list", data := .seq its.toArray }, toks := t' } :=
  I.laid (fun _ _ q => Heap.get?_push_of_some _ q) (Nat.le_refl _) ⟨hz, its, 0, hv, Heap.get?_push_size _ rfl⟩
theorem Inv.fresh (I : Inv X pins σ H s) : H s.heap.objs.size = none := I.hok.fresh (Nat.le_refl _)
theorem Inv.lstM (I : Inv X pins σ H s) (hH : H l = some (.lst xs)) : xs.length <= sizeLine /\ ∃ (its : List Value) (n : Nat), Vals xs its /\ xs.length = its.length /\ s.heap.get? l = some { cls := .type "list", data := .seq its.toArray n } := by
  obtain ⟨z, its, n, r, e⟩ := I.hok l _ hH
  exact ⟨z, its, n, r, r.length, e⟩
theorem notLongL {n : Nat} (h : n <= sizeLine) : Builtin.List.listTooLong n = false := by
  unfold Builtin.List.listTooLong
  exact decide_eq_false (by omega)
end
section
variable {X : Cx}
def rAppend : V -> List V -> Hp -> VK -> Prop := fun x vs H Q => ∃ l xs y, x = .ref l /\ vs = [y] /\ H l = some (.lst xs) /\ xs.length < sizeLine /\ Q .non (upd H l (.lst (xs ++ [y])))
theorem mt_append : MtM X "list.append" rAppend := by
  intro pins s σ H x vs v us Q I rx rv h
  obtain ⟨l, xs, y, rfl, rfl, hH, hz, q⟩ := h
  cases rx
  obtain ⟨u, rfl, ru⟩ := rv.one
  obtain ⟨z, its, n, r, hl, e⟩ := I.lstM hH
  refine call_meets F.slot_list_append ⟨_, e, rfl⟩ F.entry_list_append (F.args_list_append_2 _ _) (PySem.list_append l its.toArray n u (by rw [List.size_toArray]; omega)) ⟨e, ?_⟩
  refine ⟨.non, _, I.lset (its' := its ++ [u]) hH e (by simp) (r.append (.cons ru .nil)) ?_, rfl, q⟩
  rw [List.length_append, List.length_singleton]
  omega
def rExtend : V -> List V -> Hp -> VK -> Prop := fun x vs H Q => ∃ l b xs zs, x = .ref l /\ vs = [.ref b] /\ H l = some (.lst xs) /\ H b = some (.lst zs) /\ xs.length + zs.length <= sizeLine /\ Q .non (upd H l (.lst (xs ++ zs)))
theorem mt_extend : MtM X "list.extend" rExtend := by
  intro pins s σ H x vs v us Q I rx rv h
  obtain ⟨l, b, xs, zs, rfl, rfl, hH, hB, hz, q⟩ := h
  cases rx
  obtain ⟨u, rfl, ru⟩ := rv.one
  cases ru
  obtain ⟨z, its, n, r, hl, e⟩ := I.lstM hH
  obtain ⟨z2, its2, n2, r2, hl2, e2⟩ := I.lstM hB
  have hsz : its.toArray.size + its2.toArray.size <= sizeLine := by rw [List.size_toArray, List.size_toArray]; omega
  have hlong : ¬ (!its.toArray.isEmpty && Builtin.List.listTooLong (its.toArray.size + its2.toArray.size)) = true := by
    rw [notLongL hsz, Bool.and_false]
    exact Bool.false_ne_true
  refine call_meets F.slot_list_extend ⟨_, e, rfl⟩ F.entry_list_extend (F.args_list_extend_2 _ _)
    (AutoSeq1.list_extend_list_list_0 l its.toArray n b its2.toArray n2 hlong (by rw [List.size_toArray]; omega) (by omega)) ⟨e, e2, ?_⟩
  refine ⟨.non, _, I.lset (its' := its ++ its2) hH e (by simp) (r.append r2) ?_, rfl, q⟩
  rw [List.length_append]
  omega
def rPop : V -> List V -> Hp -> VK -> Prop := fun x vs H Q => ∃ l xs y, x = .ref l /\ vs = [] /\ H l = some (.lst xs) /\ xs[xs.length - 1]? = some y /\ Q y (upd H l (.lst xs.dropLast))
theorem mt_pop : MtM X "list.pop" rPop := by
  intro pins s σ H x vs v us Q I rx rv h
  obtain ⟨l, xs, y, rfl, rfl, hH, hy, q⟩ := h
  cases rx
  have hus := rv.zero
  subst hus
  obtain ⟨z, its, n, r, hl, e⟩ := I.lstM hH
  obtain ⟨u, hu, ru⟩ := r.get hy
  have hy' : its.toArray[its.toArray.size - 1]? = some u := by
    show its.toArray[its.length - 1]? = some u
    rw [<- Array.getElem?_toList, <- hl]
    exact hu
  refine call_meets F.slot_list_pop ⟨_, e, rfl⟩ F.entry_list_pop (F.args_list_pop_1 _) (MeetsSeq.list_pop_last l its.toArray n u hy' (by rw [List.size_toArray]; omega)) ⟨e, ?_⟩
  refine ⟨y, _, I.lset (its' := its.dropLast) hH e ?_ r.dropLast ?_, ru, q⟩
  · show its.toArray.eraseIdxIfInBounds (its.toArray.size - 1) = its.dropLast.toArray
    rw [List.size_toArray, List.eraseIdxIfInBounds_toArray, erase_last]
  · rw [List.length_dropLast]
    omega
def rCat : R2 := fun x y H Q => ∃ l b xs zs, x = .ref l /\ y = .ref b /\ H l = some (.lst xs) /\ H b = some (.lst zs) /\ xs.length + zs.length <= sizeLine /\ ∀ p, H p = none -> Q (.ref p) (upd H p (.lst (xs ++ zs)))
theorem op_cat : OpR X (binaryOp .Add) rCat := by
  intro pins s σ H x y v u Q I rx ry h
  obtain ⟨l, b, xs, zs, rfl, rfl, hH, hB, hz, q⟩ := h
  cases rx
  cases ry
  obtain ⟨z, its, n, r, hl, e⟩ := I.lstM hH
  obtain ⟨z2, its2, n2, r2, hl2, e2⟩ := I.lstM hB
  refine PySem.P.add_list e e2 ?_ (by rw [List.size_toArray, List.size_toArray]; omega)
  have ea : its.toArray ++ its2.toArray = (its ++ its2).toArray := by simp
  rw [ea]
  exact ⟨.ref _, _, I.lnew (t' := s.toks) (r.append r2) (by rw [List.length_append]; omega), rfl, q _ I.fresh⟩
end
section
variable {prog : Program} {w : World} {A : Around} {E : Value -> Shared -> Prop} {s : Shared}
end
section
variable {X : Cx}
end
end L2
namespace Att
open PySem PySem.W PySem.Calls PyProof.Rows
theorem ints_of_wellAll {P : Params} {h : Heap} : ∀ (ns : List Int) (vs : List Value), WellAll P h vs (ns.map WData.int) -> IntsAre vs ns := by
  intro ns
  induction ns with
  | nil =>
    intro vs w
    rw [List.map_nil] at w
    cases w
    exact .nil
  | cons n ns ih =>
    intro vs w
    rw [List.map_cons] at w
    cases w with
    | cons a b =>
      cases a
      exact .cons _ _ (ih _ b)
theorem script_of {l : OpenLaw} {n : Nat} (hn : l.most = some n) {P : Params} {h : Heap} {args : List WData} {vals : List Value}
    (hpre : l.row.toRowW.claim.pre args = true) (hwl : WellAll P h vals args) :
    ∃ a vs ns, vals = [Value.ref a] /\ args = [WData.list (ns.map WData.int)] /\ h.get? a = some { cls := .type "list", data := .seq vs.toArray } /\ IntsAre vs ns /\ ns.length <= n := by
  have hsh : WShape.hasAll [] args [.list .int] = true := (pre_splitW hpre).1
  have hc : l.pre.holds [] { args := args } = true := (pre_splitW hpre).2
  obtain ⟨d, r, rfl, h1, h2⟩ := hasAllW_cons hsh
  obtain rfl := hasAllW_nil h2
  obtain ⟨xs, rfl, h3⟩ := hasW_list h1
  obtain ⟨ns, rfl⟩ := items_int h3
  have hlen : ns.length <= n := by
    unfold OpenLaw.pre at hc
    have h4 : (WTm.not (.lt (.lit (.int (n : Int))) (.len (.arg 0)))).holds [] { args := [.list (ns.map .int)] } = true := by
      have h4 := (holds_andW hc).1
      rw [hn] at h4
      exact h4
    have h5 := condW_of h4 (w_not (w_lt w_lit (w_len_list (w_arg rfl))))
    rw [List.length_map] at h5
    refine Nat.le_of_not_lt fun q => ?_
    have q' : (n : Int) < ((ns.length : Nat) : Int) := by omega
    first
      | (rw [decide_eq_true q'] at h5; exact absurd h5 (by decide))
      | (simp at h5; omega)
  cases hwl with
  | cons w1 w2 =>
    cases w2
    cases w1 with
    | list ho hall => exact ⟨_, _, ns, rfl, rfl, ho, ints_of_wellAll ns _ hall, hlen⟩
theorem post_true (l : OpenLaw) (args : List WData) : l.row.toRowW.claim.post args (.bool true) args = true :=
  postW_of (r := l.row.toRowW) (X := (true == true))
    (show WShape.has [] (.bool true) .bool = true by first | rfl | decide | simp [WShape.has, WShape.arms, WShape.armsAll])
    (show (WTm.eq .res (.lit (.bool true))).value [] { args := args, res := some (.bool true), after := args } = some (.bool (true == true)) from w_eq_bool (w_res rfl) w_lit) rfl
theorem attach_call {l : OpenLaw} {n : Nat} {q : Program} {loose : List Str} {XP : (Str -> Option Value) -> Heap -> Prop} {YP : World -> Heap -> Prop} {d : DefRec}
    (hn : l.most = some n) (hdf : d.params.defaults = [])
    (call : ∀ (w : World) (s₀ s₁ : Shared) (mg mb : Str -> Option Value) (fa : Addr) (o : Obj) (pm cd doc : Value) (a : Addr) (vs : List Value) (ns : List Int),
      Ground q loose [] XP w s₀ mg mb s₁.heap -> YP w s₁.heap ->
      s₁.heap.get? fa = some o -> o.data = .func (docDef d.name d.params d.body d.scope pm cd doc) -> s₁.heap.CodeRec cd d.name -> mg d.name = some (.ref fa) ->
      s₁.heap.get? a = some { cls := .type "list", data := .seq vs.toArray } -> IntsAre vs ns -> ns.length <= n -> s₁.gens = #[] ->
      codeAny (model l.prog w) callerA (.call (.ref fa) ⟨[.ref a], []⟩) (fun r s' => r = .ok (.ret (.bool true)) /\ OldK s₁.heap s'.heap /\ s'.os = s₁.os /\ AllBare s'.gens) s₁) :
    WalkO q loose XP YP l.row.toRowW d [] (fun f vs => PySem.call f vs) := by
  intro w s₀ s₁ mg mb G Y fa o pm cd doc dV kV ho hd hcd hD hmg hg args vals as hpre hlay hrd hwl hlo
  obtain rfl : dV = .none := Dflts.none hD hdf
  obtain rfl : kV = .none := Dflts.noKw hD
  obtain ⟨a, vs, ns, rfl, rfl, hobj, hints, hlen⟩ := script_of hn hpre hwl
  refine enter_call (codeAny_mono (call w s₀ s₁ mg mb fa o pm cd doc a vs ns G Y ho (fd_plain hd) hcd hmg hobj hints hlen hg) fun r s' hq => ?_)
  obtain ⟨rfl, h2, h3, h4⟩ := hq
  exact ⟨.inl ⟨.bool true, .bool true, [], rfl, fun _ => rfl, .bool true, post_true l _, fun _ => ⟨List.Pairwise.nil, fun _ hm => (nomatch hm)⟩⟩, h2, h3, h4⟩
section
variable {prog : Program} {w : World} {A : Around} {E : Value -> Shared -> Prop} {s : Shared} {K : Frag}
end
end Att
namespace L2
open PySem PySem.Spec PyProof.Rows
theorem vals_ints : ∀ {vs : List Value} {ns : List Int}, IntsAre vs ns -> Vals (ns.map V.int) vs
  | _, _, .nil => .nil
  | _, _, .cons n t h => .cons ⟨t, rfl⟩ (vals_ints h)
def Only (H : Hp) : Prop := ∀ b, H b = none \/ ∃ o xs, H b = some (.frz o (.lst xs))
theorem law_call {P : Program} {w : World} {K : PySem.W.Frag} {mg mb : Str -> Option Value} {CX : CXT} {k : Nat} {fa a : Addr} {fd : FuncData} {x : Str} {sp : Sp} {s₁ : Shared} {vs : List Value} {ns : List Int}
    (KX : K.In s₁.heap) (hns : s₁.heap.Ns mainGlobals mg) (hb : s₁.heap.Ns builtinsNs mb) (hbb : ∀ x : Str, x ≠ "__name__" -> mb x = bootBuiltins x) (hlim : s₁.heap.NoLimit) (hg : s₁.gens = #[])
    (ha : s₁.heap.get? a = some { cls := .type "list", data := .seq vs.toArray }) (hi : IntsAre vs ns) (hl : ns.length <= sizeLine) (hr : Room k callerA)
    (F : ∀ base : Heap, K.In base -> base.Ns mainGlobals mg -> FnOk P w K mg base CX k fa fd [x] sp) (hbind : ∀ (s : Shared) (u : Value), BindsTo s fd ⟨[u], []⟩ [(x, u)])
    (hsp : ∀ H : Hp, Only H -> SqL K H a (ns.map V.int) -> sp [.ref a] H (fun v _ => v = .bl true) fun _ _ _ => False)
    (hCX : ∀ H e s', CX [] H s₁ (fun _ _ _ => False) e s' -> False) :
    codeAny (model P w) callerA (.call (.ref fa) ⟨[.ref a], []⟩) (fun r s' => r = .ok (.ret (.bool true)) /\ OldK s₁.heap s'.heap /\ s'.os = s₁.os /\ AllBare s'.gens) s₁ := by
  have rv := vals_ints hi
  have lenV := hi.length
  have core : ∀ H : Hp, Only H -> SqL K H a (ns.map V.int) -> HOk P w H s₁.heap -> (∀ b, H b ≠ none -> b = a) -> (H a ≠ none -> K.lookup a = none) ->
      codeAny (model P w) callerA (.call (.ref fa) ⟨[.ref a], []⟩) (fun r s' => r = .ok (.ret (.bool true)) /\ OldK s₁.heap s'.heap /\ s'.os = s₁.os /\ AllBare s'.gens) s₁ := by
    intro H hO hS hok hA hK
    have base_of : ∀ {b : Addr} {o : Obj}, s₁.heap.get? b = some o -> H b = none -> (hidT s₁.heap H).get? b = some o := fun e n => hidT_get e n
    have noA : ∀ {b : Addr} {o : Obj} {es : Array DictEntry} {ep : Nat}, s₁.heap.get? b = some o -> o.data = .dict es ep -> H b = none := fun {b o es ep} e d => by
      cases q : H b with
      | none => rfl
      | some u =>
        have e' : b = a := hA b (by rw [q]; simp)
        subst e'
        rw [ha] at e; cases e
        have d' : Data.seq vs.toArray _ = Data.dict es ep := d
        cases d'
    have nsK : ∀ {b : Addr} {m : Str -> Option Value}, s₁.heap.Ns b m -> (hidT s₁.heap H).Ns b m := fun {b m} ⟨o, es, ep, e, d, r⟩ => ⟨o, es, ep, base_of e (noA e d), d, r⟩
    have hKb : K.In (hidT s₁.heap H) := fun b o e => base_of (KX b o e) (by
      cases q : H b with
      | none => rfl
      | some u =>
        have e' : b = a := hA b (by rw [q]; simp)
        subst e'
        rw [hK (by rw [q]; simp)] at e; cases e)
    have hM : Mod K mg (hidT s₁.heap H) := ⟨hKb, nsK hns, ⟨mb, nsK hb, hbb⟩, let ⟨mc, h1, h2⟩ := hlim; ⟨mc, nsK h1, h2⟩⟩
    have e0 : Env0 P w K mg (hidT s₁.heap H) callerA [] s₁ H := ⟨rfl, hM, fun b o e => of_hidT e, Nat.le_of_eq (hidT_size _ _), trivial, fun b hb => absurd (show b ∈ ([] : List Addr) from hb) (by simp), hok, .of_eq hg⟩
    refine codeAny_mono ((F _ hKb (nsK hns)).run callerA [] s₁ H ⟨[.ref a], []⟩ [.ref a] [.ref a] _ _ hr e0 (hbind s₁ (.ref a)) (.cons rfl .nil) (hsp H hO hS)) fun r s' h => ?_
    cases r with
    | error e => exact (hCX H e s' h).elim
    | ok fl =>
      cases fl with
      | next => exact False.elim h
      | brk => exact False.elim h
      | cont => exact False.elim h
      | ret u =>
        obtain ⟨v, H', os, bare, un, hok', r', q⟩ := h
        have q' : v = .bl true := q
        subst q'
        obtain rfl : u = Value.bool true := r'
        refine ⟨rfl, OldK.of_keep fun b o e => ?_, os, bare⟩
        cases q : H b with
        | none => exact un.keep b o e q (by intro z; exact absurd (show b ∈ ([] : List Addr) from z) (by simp)) (by simp)
        | some u =>
          rcases hO b with z | ⟨ob, xs, z⟩
          · rw [q] at z; cases z
          · have z2 := un.frzs b ob _ z
            obtain ⟨e1, _⟩ := hok b _ z
            obtain ⟨e2, _⟩ := hok' b _ z2
            rw [e] at e1; cases e1
            exact e2
  cases hk : K.lookup a with
  | some o =>
    have e := KX a o hk
    rw [ha] at e
    cases e
    refine core (fun _ => none) (fun _ => .inl rfl) (.inr ⟨_, vs.toArray, _, hk, rfl, rfl, rfl, by rw [List.size_toArray, lenV]; exact hl, by simpa using rv⟩) (fun b u z => by have z' : (none : Option HO) = some u := z; cases z') (fun b z => absurd rfl z) fun z => absurd rfl z
  | none =>
    refine core (fun b => if b = a then some (.frz { cls := .type "list", data := .seq vs.toArray } (.lst (ns.map V.int))) else none) (fun b => ?_) (.inl (.inr ⟨{ cls := .type "list", data := .seq vs.toArray }, if_pos rfl⟩)) (fun b u z => ?_) (fun b z => ?_) fun _ => hk
    · by_cases hb : b = a
      · exact .inr ⟨_, _, if_pos hb⟩
      · exact .inl (if_neg hb)
    · by_cases hb : b = a
      · have z' := (if_pos hb).symm.trans z
        cases z'
        subst hb
        exact ⟨ha, by rw [List.length_map]; exact hl, vs, _, rv, ha⟩
      · have z' := (if_neg hb).symm.trans z
        cases z'
    · by_cases hb : b = a
      · exact hb
      · exact absurd (if_neg hb) z
end L2
namespace L2
open PySem PySem.Spec PyProof.Rows
abbrev KOf {K : PySem.W.Frag} {h : Heap} (_ : K.In h) : PySem.W.Frag := K
theorem walk_of {l : PySem.W.OpenLaw} {n k : Nat} {q : Program} {loose : List Str} {XP : (Str -> Option Value) -> Heap -> Prop} {YP : World -> Heap -> Prop} {d : DefRec} {K : Params -> PySem.W.Frag} {CX : World -> CXT} {sp : World -> Sp} {x : Str}
    (hn : l.most = some n) (hn2 : n <= sizeLine) (hdf : d.params.defaults = []) (hr : Room k callerA)
    (hY : ∀ (w : World) (h : Heap), YP w h -> (K w.params).In h)
    (F : ∀ (w : World) (mg : Str -> Option Value) (fa : Addr) (h : Heap), (K w.params).In h -> h.Ns mainGlobals mg -> mg d.name = some (.ref fa) ->
      ∃ fd : FuncData, (∀ (s : Shared) (u : Value), BindsTo s fd ⟨[u], []⟩ [(x, u)]) /\
        ∀ base : Heap, (K w.params).In base -> base.Ns mainGlobals mg -> FnOk l.prog w (K w.params) mg base (CX w) k fa fd [x] (sp w))
    (hsp : ∀ (w : World) (H : Hp) (a : Addr) (ns : List Int), ns.length <= n -> Only H -> SqL (K w.params) H a (ns.map V.int) -> sp w [.ref a] H (fun v _ => v = .bl true) fun _ _ _ => False)
    (hCX : ∀ (w : World) (H : Hp) (s : Shared) (e : Value) (s' : Shared), CX w [] H s (fun _ _ _ => False) e s' -> False) :
    PySem.W.WalkO q loose XP YP l.row.toRowW d [] (fun f vs => PySem.call f vs) := by
  refine Att.attach_call hn hdf fun w s₀ s₁ mg mb fa o pm cd doc a vs ns G Y ho hd hcd hmg hobj hints hlen hg => ?_
  have KX := hY w _ Y
  obtain ⟨fd, hb, hF⟩ := F w mg fa _ KX G.T.g hmg
  exact law_call KX G.T.g G.T.b G.T.builtins G.T.nolimit hg hobj hints (Nat.le_trans hlen hn2) hr hF hb (fun H hO hS => hsp w H a ns hlen hO hS) fun H e s' => hCX w H s₁ e s'
theorem walk_ofK {l : PySem.W.OpenLaw} {n k : Nat} {q : Program} {loose : List Str} {XP : (Str -> Option Value) -> Heap -> Prop} {YP : World -> Heap -> Prop} {d : DefRec} {K : Params -> PySem.W.Frag} {CX : CXT} {sp : PySem.W.Frag -> Sp} {x : Str}
    (hn : l.most = some n) (hn2 : n <= sizeLine) (hdf : d.params.defaults = []) (hr : Room k callerA)
    (hY : ∀ (w : World) (h : Heap), YP w h -> (K w.params).In h)
    (F : ∀ (w : World) (mg : Str -> Option Value) (fa : Addr) (h : Heap), (K w.params).In h -> h.Ns mainGlobals mg -> mg d.name = some (.ref fa) ->
      ∃ fd : FuncData, (∀ (s : Shared) (u : Value), BindsTo s fd ⟨[u], []⟩ [(x, u)]) /\
        ∀ base : Heap, (K w.params).In base -> base.Ns mainGlobals mg -> FnOk l.prog w (K w.params) mg base CX k fa fd [x] (sp (K w.params)))
    (hsp : ∀ (K : PySem.W.Frag) (H : Hp) (a : Addr) (ns : List Int), ns.length <= n -> Only H -> SqL K H a (ns.map V.int) -> sp K [.ref a] H (fun v _ => v = .bl true) fun _ _ _ => False)
    (hCX : ∀ (H : Hp) (s : Shared) (e : Value) (s' : Shared), CX [] H s (fun _ _ _ => False) e s' -> False) :
    PySem.W.WalkO q loose XP YP l.row.toRowW d [] (fun f vs => PySem.call f vs) :=
  walk_of (K := K) (CX := fun _ => CX) (sp := fun w => sp (K w.params)) hn hn2 hdf hr hY F (fun w H a ns h1 h2 h3 => hsp (K w.params) H a ns h1 h2 h3) fun _ H s e s' => hCX H s e s'
end L2
namespace L2
open PySem PySem.Spec PyProof.Rows
def defArgs (s : Stmt) : Arguments := match s with
  | .FunctionDef _ a _ _ _ _ _ _ _ _ => a
  | _ => { posonlyargs := [], args := [], vararg := none, kwonlyargs := [], kw_defaults := [], kwarg := none, defaults := [] }
def defBody (s : Stmt) : List Stmt := match s with
  | .FunctionDef _ _ b _ _ _ _ _ _ _ => b
  | _ => []
def defScope (s : Stmt) : Scope := match s with
  | .FunctionDef _ _ _ _ _ _ sc _ _ _ => sc
  | _ => { kind := .function, names := [], isGenerator := false, isCoroutine := false }
abbrev CX0 : CXT := fun _ _ _ _ _ _ => False
abbrev E0 : XK := fun _ _ _ => False
theorem pass0 {X : Cx} : Passes CX0 X E0 := fun _ _ _ _ _ _ _ h => h.elim
structure Fun (K : PySem.W.Frag) (x qual : Str) (st : Stmt) (f : Addr) (fd : FuncData) : Prop where
  ex : ∃ (oc : Value) (od : Option Addr) (kV doc pm : Value) (an : Option Addr) (cdv ct : Value) (osl : Array (Option Value)),
    fd = PySem.W.fnOf x qual (defArgs st) (defBody st) (defScope st) .none kV doc pm an cdv ct /\ K.lookup f = some ⟨oc, od, .func fd, osl⟩ /\ PySem.W.codeIn K cdv qual = true
  kp : PySem.W.keepIn K (.ref f) = true
section
variable {P : Program} {w : World} {K : PySem.W.Frag} {mg : Str -> Option Value} {base : Heap}
theorem Fun.ok {x qual : Str} {st : Stmt} {f : Addr} {fd : FuncData} {N ps : List Str} {k : Nat} {sp : Sp} (F : Fun K x qual st f fd) (S : FnScope N ps (defScope st)) (len : ∀ vs H Q E, sp vs H Q E -> vs.length = ps.length)
    (hbody : ∀ (cdv : Value) (A : Around) (outer : List Env) (s : Shared) (H : Hp) (vs : List V) (Q : VK) (E : XK), Room k (A.deeper (envOfC qual (defScope st) s.heap.objs.size f cdv)) -> sp vs H Q E ->
      ∃ t, PSs (cxOf CX0 P w K mg base N qual (defScope st) f cdv A outer s H E).nox (defBody st) t /\ t { nx := fun _ H' => Q .non H', rt := Q } (start N vs) H) : FnOk P w K mg base CX0 (k + 1) f fd ps sp := by
  obtain ⟨oc, od, kV, doc, pm, an, cdv, ct, osl, rfl, lk, hcd⟩ := F.ex
  refine fn_of lk hcd S len fun A outer s H vs Q E hr hsp => ?_
  obtain ⟨t, h, q⟩ := hbody cdv A outer s H vs Q E hr hsp
  exact ⟨t, h.nox, q⟩
theorem Fun.binds {x qual : Str} {st : Stmt} {f : Addr} {fd : FuncData} {ps : List Str} (F : Fun K x qual st f fd)
    (h : ∀ (kV doc pm : Value) (an : Option Addr) (cdv ct : Value) (us : List Value), us.length = ps.length -> bindArgs (PySem.W.fnOf x qual (defArgs st) (defBody st) (defScope st) .none kV doc pm an cdv ct) ⟨us, []⟩ = pure (ps.zip us)) : Binds K fd ps [] := by
  obtain ⟨oc, od, kV, doc, pm, an, cdv, ct, osl, rfl, lk, hcd⟩ := F.ex
  exact .all (h kV doc pm an cdv ct)
theorem fun_mk {x qual : Str} {st : Stmt} {f : Addr} {oc : Value} {od an : Option Addr} {osl : Array (Option Value)} {kV doc pm cdv ct : Value} (l : K.lookup f = some ⟨oc, od, .func (PySem.W.fnOf x qual (defArgs st) (defBody st) (defScope st) .none kV doc pm an cdv ct), osl⟩)
    (c : PySem.W.codeIn K cdv qual = true) (k : PySem.W.keepIn K (.ref f) = true) : Fun K x qual st f (PySem.W.fnOf x qual (defArgs st) (defBody st) (defScope st) .none kV doc pm an cdv ct) := ⟨⟨oc, od, kV, doc, pm, an, cdv, ct, osl, rfl, l, c⟩, k⟩
end
section
variable {X : Cx}
theorem pv (i : Nat) {x : Str} {pos : Pos} (hN : X.N[i]? = some x := by rfl) (hv : Vis X.env.scope x := by first | exact Or.inl rfl | exact Or.inr (Or.inl rfl) | exact Or.inr (Or.inr rfl)) (hd : (x == ("__debug__" : Str)) = false := by decide)
    (hcd : (x == ("__classdict__" : Str)) = false := by decide) : PE X (.Name x pos) (tVar i) := pe_var hN hv hd hcd
end
theorem iteF {A B : Prop} (h : B) : if false = true then A else B := by
  rw [if_neg Bool.false_ne_true]
  exact h
theorem iteT {A B : Prop} (h : A) : if true = true then A else B := by
  rw [if_pos rfl]
  exact h
theorem iteNS {c A B : Prop} [Decidable c] (hc : c) (h : B) : if (!decide c) = true then A else B := by
  rw [decide_eq_true hc]
  exact iteF h
def Same (H H' : Hp) : Prop := ∀ b o, H b = some o -> H' b = some o
theorem Same.refl (H : Hp) : Same H H := fun _ _ h => h
theorem Same.trans {H H1 H2 : Hp} (a : Same H H1) (b : Same H1 H2) : Same H H2 := fun c o h => b c o (a c o h)
theorem Same.free {H H' : Hp} (e : Same H H') {l : Addr} (h : H' l = Option.none) : H l = Option.none := by
  cases q : H l with
  | none => rfl
  | some o =>
    rw [e l o q] at h
    cases h
theorem Same.seq {K : PySem.W.Frag} {H H' : Hp} {a : Addr} {xs : List V} (e : Same H H') (h : SqL K H a xs) : SqL K H' a xs := by
  rcases h with (h | ⟨o, h⟩) | h
  · exact .inl (.inl (e _ _ h))
  · exact .inl (.inr ⟨o, e _ _ h⟩)
  · exact .inr h
end L2
set_option maxHeartbeats 4000000
namespace L2
open PySem PySem.Spec PyProof.Rows
inductive Da where
  | fl (v : V)
  | tup (ds : List Da)
  | lst (ds : List Da)
mutual
def Isd (K : PySem.W.Frag) (H : Hp) : Da -> V -> Prop
  | .fl x, v => v = x /\ flatV x = true
  | .tup ds, v => ∃ a xs, v = .ref a /\ SqT K H a xs /\ Isds K H ds xs
  | .lst ds, v => ∃ a xs, v = .ref a /\ SqL K H a xs /\ Isds K H ds xs
def Isds (K : PySem.W.Frag) (H : Hp) : List Da -> List V -> Prop
  | [], xs => xs = []
  | d :: ds, xs => ∃ v vs, xs = v :: vs /\ Isd K H d v /\ Isds K H ds vs
end
mutual
def eqD : Da -> Da -> Bool
  | .fl x, .fl y => eqV x y
  | .tup a, .tup b => eqDs a b
  | .lst a, .lst b => eqDs a b
  | _, _ => false
def eqDs : List Da -> List Da -> Bool
  | [], [] => true
  | a :: r, b :: t => eqD a b && eqDs r t
  | _, _ => false
end
mutual
def depD : Da -> Nat
  | .fl _ => 0
  | .tup ds => depDs ds + 1
  | .lst ds => depDs ds + 1
def depDs : List Da -> Nat
  | [] => 0
  | d :: ds => max (depD d) (depDs ds)
end
theorem Isds.len {K : PySem.W.Frag} {H : Hp} : ∀ {ds : List Da} {xs : List V}, Isds K H ds xs -> ds.length = xs.length
  | [], xs, h => by unfold Isds at h; subst h; rfl
  | d :: ds, xs, h => by
    unfold Isds at h
    obtain ⟨v, vs, rfl, _, t⟩ := h
    rw [List.length_cons, List.length_cons, Isds.len t]
theorem Isds.get {K : PySem.W.Frag} {H : Hp} : ∀ {ds : List Da} {xs : List V} {i : Nat} {d : Da} {v : V}, Isds K H ds xs -> ds[i]? = some d -> xs[i]? = some v -> Isd K H d v
  | [], _, _, _, _, _, e, _ => by simp at e
  | d :: ds, xs, 0, _, _, h, e, q => by
    unfold Isds at h
    obtain ⟨v, vs, rfl, hd, t⟩ := h
    simp at e q
    subst e q
    exact hd
  | d :: ds, xs, i + 1, _, _, h, e, q => by
    unfold Isds at h
    obtain ⟨v, vs, rfl, hd, t⟩ := h
    exact Isds.get t (by simpa using e) (by simpa using q)
theorem eqV_refl {x : V} (h : flatV x = true) : eqV x x = true := by
  cases x with
  | non => rfl
  | bl b => show (b == b) = true; simp
  | int i => show (i == i) = true; simp
  | str z => show (z == z) = true; simp
  | _ => exact absurd (show false = true from h) Bool.false_ne_true
section
variable {X : Cx} {pins : List (Addr × Obj)} {σ : St} {H : Hp} {s : Shared}
theorem Inv.lst_tup (I : Inv X pins σ H s) {a : Addr} {xs ys : List V} (h : SqL X.K H a xs) (h' : SqT X.K H a ys) : False := by
  obtain ⟨its, _, ⟨o1, n1, e1, c1, _⟩, _⟩ := I.list h
  obtain ⟨its2, _, ⟨o, e2, c2, _⟩, _⟩ := I.tuple h'
  rw [e1] at e2
  cases e2
  rw [c1] at c2
  exact absurd (Value.type.inj c2) (by decide)
theorem Isd.flat_ref {K : PySem.W.Frag} {a : Addr} {x : V} (h : Isd K H (.fl x) (.ref a)) : False := by
  unfold Isd at h
  obtain ⟨e, f⟩ := h
  subst e
  exact absurd (show false = true from f) Bool.false_ne_true
mutual
theorem Isd.inj (I : Inv X pins σ H s) : ∀ (d e : Da) {v : V}, Isd X.K H d v -> Isd X.K H e v -> d = e
  | .fl x, .fl y, v, h, q => by
    unfold Isd at h q
    rw [<- h.1, <- q.1]
  | .fl x, .tup ys, v, h, q => by
    unfold Isd at q
    obtain ⟨a, zs, e, _⟩ := q
    subst e
    exact h.flat_ref.elim
  | .fl x, .lst ys, v, h, q => by
    unfold Isd at q
    obtain ⟨a, zs, e, _⟩ := q
    subst e
    exact h.flat_ref.elim
  | .tup xs, .fl y, v, h, q => by
    unfold Isd at h
    obtain ⟨a, zs, e, _⟩ := h
    subst e
    exact q.flat_ref.elim
  | .lst xs, .fl y, v, h, q => by
    unfold Isd at h
    obtain ⟨a, zs, e, _⟩ := h
    subst e
    exact q.flat_ref.elim
  | .tup xs, .tup ys, v, h, q => by
    unfold Isd at h q
    obtain ⟨a, us, e, ha, hs⟩ := h
    obtain ⟨b, ws, e', hb, qs⟩ := q
    subst e
    cases e'
    rw [I.tuple_inj ha hb] at hs
    rw [Isds.inj I xs ys hs qs]
  | .lst xs, .lst ys, v, h, q => by
    unfold Isd at h q
    obtain ⟨a, us, e, ha, hs⟩ := h
    obtain ⟨b, ws, e', hb, qs⟩ := q
    subst e
    cases e'
    rw [I.list_inj ha hb] at hs
    rw [Isds.inj I xs ys hs qs]
  | .tup xs, .lst ys, v, h, q => by
    unfold Isd at h q
    obtain ⟨a, us, e, ha, hs⟩ := h
    obtain ⟨b, ws, e', hb, qs⟩ := q
    subst e
    cases e'
    exact (I.lst_tup hb ha).elim
  | .lst xs, .tup ys, v, h, q => by
    unfold Isd at h q
    obtain ⟨a, us, e, ha, hs⟩ := h
    obtain ⟨b, ws, e', hb, qs⟩ := q
    subst e
    cases e'
    exact (I.lst_tup ha hb).elim
theorem Isds.inj (I : Inv X pins σ H s) : ∀ (ds es : List Da) {vs : List V}, Isds X.K H ds vs -> Isds X.K H es vs -> ds = es
  | [], [], _, _, _ => rfl
  | [], e :: es, vs, h, q => by
    unfold Isds at h q
    obtain ⟨v, r, e1, _⟩ := q
    rw [h] at e1; cases e1
  | d :: ds, [], vs, h, q => by
    unfold Isds at h q
    obtain ⟨v, r, e1, _⟩ := h
    rw [q] at e1; cases e1
  | d :: ds, e :: es, vs, h, q => by
    unfold Isds at h q
    obtain ⟨v, r, e1, h1, h2⟩ := h
    obtain ⟨v', r', e2, q1, q2⟩ := q
    subst e1
    cases e2
    rw [Isd.inj I d e h1 q1, Isds.inj I ds es h2 q2]
end
mutual
theorem eqD_refl {K : PySem.W.Frag} : ∀ (d : Da) {v : V}, Isd K H d v -> eqD d d = true
  | .fl x, v, h => by
    unfold Isd at h
    unfold eqD
    exact eqV_refl h.2
  | .tup ds, v, h => by
    unfold Isd at h
    obtain ⟨_, _, _, _, hs⟩ := h
    unfold eqD
    exact eqDs_refl ds hs
  | .lst ds, v, h => by
    unfold Isd at h
    obtain ⟨_, _, _, _, hs⟩ := h
    unfold eqD
    exact eqDs_refl ds hs
theorem eqDs_refl {K : PySem.W.Frag} : ∀ (ds : List Da) {vs : List V}, Isds K H ds vs -> eqDs ds ds = true
  | [], _, _ => by unfold eqDs; rfl
  | d :: ds, vs, h => by
    unfold Isds at h
    obtain ⟨_, _, _, h1, h2⟩ := h
    unfold eqDs
    rw [eqD_refl d h1, eqDs_refl ds h2]
    rfl
end
theorem eqDs_all : ∀ (ds es : List Da), ds.length = es.length -> (List.range ds.length).all (fun j => match ds[j]?, es[j]? with | some a, some b => eqD a b | _, _ => false) = eqDs ds es
  | [], [], _ => by unfold eqDs; rfl
  | [], _ :: _, h => by simp at h
  | _ :: _, [], h => by simp at h
  | d :: ds, e :: es, h => by
    have ih := eqDs_all ds es (by simpa using h)
    unfold eqDs
    rw [<- ih, List.length_cons, List.range_succ_eq_map, List.all_cons, List.all_map]
    simp only [List.getElem?_cons_zero, Function.comp_def, List.getElem?_cons_succ]
theorem eqDs_len : ∀ (ds es : List Da), ds.length ≠ es.length -> eqDs ds es = false
  | [], [], h => by simp at h
  | [], _ :: _, _ => by unfold eqDs; rfl
  | _ :: _, [], _ => by unfold eqDs; rfl
  | d :: ds, e :: es, h => by
    unfold eqDs
    rw [eqDs_len ds es (by simpa using h), Bool.and_false]
theorem depD_mem : ∀ {ds : List Da} {d : Da} {j : Nat}, ds[j]? = some d -> depD d <= depDs ds
  | [], _, _, h => by simp at h
  | d :: ds, _, 0, h => by
    simp at h
    subst h
    unfold depDs
    omega
  | d :: ds, e, j + 1, h => by
    have := depD_mem (ds := ds) (d := e) (j := j) (by simpa using h)
    unfold depDs
    omega
def atE (ds es : List Da) (j : Nat) : Bool := match ds[j]?, es[j]? with
  | some a, some b => eqD a b
  | _, _ => false
theorem items_D {K : PySem.W.Frag} {n : Nat} {A : Around} (hE : ∀ (d e : Da) (v x : V) (u w : Value), depD d <= n -> Isd K H d v -> Isd K H e x -> RelV v u -> RelV x w -> SeqAt.EqAt A s u w (eqD d e)) {ds es : List Da} {xs ys : List V} {us ws : List Value} (hdp : depDs ds <= n)
    (h1 : Isds K H ds xs) (h2 : Isds K H es ys) (r1 : Vals xs us) (r2 : Vals ys ws) (j : Nat) (l1 : j < us.toArray.size) (l2 : j < ws.toArray.size) : SeqAt.EqAt A s us.toArray[j] ws.toArray[j] (atE ds es j) := by
  have l1' : j < us.length := by simpa using l1
  have l2' : j < ws.length := by simpa using l2
  have q1 := h1.len
  have q2 := h2.len
  have q3 := r1.length
  have q4 := r2.length
  have a1 : ds[j]? = some ds[j] := List.getElem?_eq_getElem (by omega)
  have a2 : es[j]? = some es[j] := List.getElem?_eq_getElem (by omega)
  have a3 : xs[j]? = some xs[j] := List.getElem?_eq_getElem (by omega)
  have a4 : ys[j]? = some ys[j] := List.getElem?_eq_getElem (by omega)
  obtain ⟨u1, b1, c1⟩ := r1.get a3
  obtain ⟨w1, b2, c2⟩ := r2.get a4
  have e1 : us.toArray[j] = u1 := by
    have : us[j] = u1 := by rw [List.getElem?_eq_getElem l1'] at b1; exact Option.some.inj b1
    simpa using this
  have e2 : ws.toArray[j] = w1 := by
    have : ws[j] = w1 := by rw [List.getElem?_eq_getElem l2'] at b2; exact Option.some.inj b2
    simpa using this
  rw [e1, e2]
  unfold atE
  rw [a1, a2]
  exact hE ds[j] es[j] _ _ _ _ (Nat.le_trans (depD_mem a1) hdp) (h1.get a1 a3) (h2.get a2 a4) c1 c2
theorem eqAt_D (I : Inv X pins σ H s) : ∀ (n : Nat) (d e : Da) {A : Around} {v x : V} {u w : Value}, depD d <= n -> Isd X.K H d v -> Isd X.K H e x -> RelV v u -> RelV x w -> A.units + n < cLine -> SeqAt.EqAt A s u w (eqD d e) := by
  intro n
  induction n with
  | zero =>
    intro d e A v x u w hn hd he ru rw' hu
    cases d with
    | tup ds => unfold depD at hn; omega
    | lst ds => unfold depD at hn; omega
    | fl y =>
      unfold Isd at hd
      obtain ⟨rfl, fy⟩ := hd
      cases e with
      | fl z =>
        unfold Isd at he
        obtain ⟨rfl, fz⟩ := he
        unfold eqD
        exact eqAt_V ru rw' fy fz
      | tup es =>
        unfold Isd at he
        obtain ⟨a, xs, rfl, ha, _⟩ := he
        obtain ⟨its, _, p, _⟩ := I.tuple ha
        cases rw'
        have p' : s.heap.IsTuple a its.toArray := p
        cases v with
        | non => cases ru; exact SeqAt.EqAt.none_tuple p' (by omega)
        | bl b => cases ru; exact SeqAt.EqAt.bool_tuple b p' (by omega)
        | int i => obtain ⟨t, rfl⟩ := ru; exact SeqAt.EqAt.int_tuple i t p' (by omega)
        | str z => obtain ⟨t, rfl⟩ := ru; exact SeqAt.EqAt.str_tuple z t p' (by omega)
        | _ => exact absurd (show false = true from fy) Bool.false_ne_true
      | lst es =>
        unfold Isd at he
        obtain ⟨a, xs, rfl, ha, _⟩ := he
        obtain ⟨its, _, p, _⟩ := I.list ha
        cases rw'
        have p' := p.isList
        cases v with
        | non => cases ru; exact SeqAt.EqAt.none_list p' (by omega)
        | bl b => cases ru; exact SeqAt.EqAt.bool_list b p' (by omega)
        | int i => obtain ⟨t, rfl⟩ := ru; exact SeqAt.EqAt.int_list i t p' (by omega)
        | str z => obtain ⟨t, rfl⟩ := ru; exact SeqAt.EqAt.str_list z t p' (by omega)
        | _ => exact absurd (show false = true from fy) Bool.false_ne_true
  | succ n ih =>
    intro d e A v x u w hn hd he ru rw' hu
    have items : ∀ {ds es : List Da} {xs ys : List V} {us ws : List Value}, depDs ds <= n -> Isds X.K H ds xs -> Isds X.K H es ys -> Vals xs us -> Vals ys ws ->
        ∀ j (h1 : j < us.toArray.size) (h2 : j < ws.toArray.size), SeqAt.EqAt A.in1 s us.toArray[j] ws.toArray[j] (atE ds es j) :=
      items_D (n := n) fun d e v x u w h1 h2 h3 h4 h5 => ih d e h1 h2 h3 h4 h5 (by show A.units + 1 + n < cLine; omega)
    cases d with
    | fl y =>
      exact ih (.fl y) e (by unfold depD; omega) hd he ru rw' (by omega)
    | tup ds =>
      cases e with
      | fl z =>
        unfold Isd at hd he
        obtain ⟨a, xs, rfl, ha, _⟩ := hd
        obtain ⟨rfl, fz⟩ := he
        obtain ⟨its, _, p, _⟩ := I.tuple ha
        cases ru
        have p' : s.heap.IsTuple a its.toArray := p
        cases x with
        | non => cases rw'; exact SeqAt.EqAt.tuple_none p' (by omega)
        | bl b => cases rw'; exact SeqAt.EqAt.tuple_bool b p' (by omega)
        | int i => obtain ⟨t, rfl⟩ := rw'; exact SeqAt.EqAt.tuple_int i t p' (by omega)
        | str z => obtain ⟨t, rfl⟩ := rw'; exact SeqAt.EqAt.tuple_str z t p' (by omega)
        | _ => exact absurd (show false = true from fz) Bool.false_ne_true
      | tup es =>
        have hd0 := hd
        have he0 := he
        unfold Isd at hd he
        obtain ⟨a, xs, rfl, ha, hs⟩ := hd
        obtain ⟨b, ys, rfl, hb, qs⟩ := he
        cases ru
        cases rw'
        by_cases hab : a = b
        · subst hab
          rw [<- Isd.inj I (.tup ds) (.tup es) hd0 he0, eqD_refl _ hd0]
          exact SeqAt.EqAt.same _
        · obtain ⟨us, r1, p1, _⟩ := I.tuple ha
          obtain ⟨ws, r2, p2, _⟩ := I.tuple hb
          have hdp : depDs ds <= n := by unfold depD at hn; omega
          have key := SeqAt.RcAt.tuples (A := A) (e := atE ds es) (show s.heap.IsTuple a us.toArray from p1) (show s.heap.IsTuple b ws.toArray from p2) (by omega) (items hdp hs qs r1 r2)
          have ev : ((List.range (min us.toArray.size ws.toArray.size)).all (atE ds es) && us.toArray.size == ws.toArray.size) = eqD (.tup ds) (.tup es) := by
            have q1 := hs.len
            have q2 := qs.len
            have q3 := r1.length
            have q4 := r2.length
            have z1 : us.toArray.size = ds.length := by simp; omega
            have z2 : ws.toArray.size = es.length := by simp; omega
            unfold eqD
            rw [z1, z2]
            by_cases hl : ds.length = es.length
            · rw [<- eqDs_all ds es hl, hl, Nat.min_self, beq_self_eq_true, Bool.and_true]
              rfl
            · rw [eqDs_len ds es hl, beq_eq_false_iff_ne.mpr hl, Bool.and_false]
          rw [ev] at key
          exact SeqAt.EqAt.of_refs hab key
      | lst es =>
        unfold Isd at hd he
        obtain ⟨a, xs, rfl, ha, hs⟩ := hd
        obtain ⟨b, ys, rfl, hb, qs⟩ := he
        cases ru
        cases rw'
        obtain ⟨us, r1, p1, _⟩ := I.tuple ha
        obtain ⟨ws, r2, p2, _⟩ := I.list hb
        unfold eqD
        exact SeqAt.EqAt.tuple_list (show s.heap.IsTuple a us.toArray from p1) p2.isList (by omega)
    | lst ds =>
      cases e with
      | fl z =>
        unfold Isd at hd he
        obtain ⟨a, xs, rfl, ha, _⟩ := hd
        obtain ⟨rfl, fz⟩ := he
        obtain ⟨its, _, p, _⟩ := I.list ha
        cases ru
        have p' := p.isList
        cases x with
        | non => cases rw'; exact SeqAt.EqAt.list_none p' (by omega)
        | bl b => cases rw'; exact SeqAt.EqAt.list_bool b p' (by omega)
        | int i => obtain ⟨t, rfl⟩ := rw'; exact SeqAt.EqAt.list_int i t p' (by omega)
        | str z => obtain ⟨t, rfl⟩ := rw'; exact SeqAt.EqAt.list_str z t p' (by omega)
        | _ => exact absurd (show false = true from fz) Bool.false_ne_true
      | tup es =>
        unfold Isd at hd he
        obtain ⟨a, xs, rfl, ha, hs⟩ := hd
        obtain ⟨b, ys, rfl, hb, qs⟩ := he
        cases ru
        cases rw'
        obtain ⟨us, r1, p1, _⟩ := I.list ha
        obtain ⟨ws, r2, p2, _⟩ := I.tuple hb
        unfold eqD
        exact SeqAt.EqAt.list_tuple p1.isList (show s.heap.IsTuple b ws.toArray from p2) (by omega)
      | lst es =>
        have hd0 := hd
        have he0 := he
        unfold Isd at hd he
        obtain ⟨a, xs, rfl, ha, hs⟩ := hd
        obtain ⟨b, ys, rfl, hb, qs⟩ := he
        cases ru
        cases rw'
        by_cases hab : a = b
        · subst hab
          rw [<- Isd.inj I (.lst ds) (.lst es) hd0 he0, eqD_refl _ hd0]
          exact SeqAt.EqAt.same _
        · obtain ⟨us, r1, p1, _⟩ := I.list ha
          obtain ⟨ws, r2, p2, _⟩ := I.list hb
          have hdp : depDs ds <= n := by unfold depD at hn; omega
          have q1 := hs.len
          have q2 := qs.len
          have q3 := r1.length
          have q4 := r2.length
          have z1 : us.toArray.size = ds.length := by simp; omega
          have z2 : ws.toArray.size = es.length := by simp; omega
          by_cases hl : ds.length = es.length
          · have key := SeqAt.RcAt.lists (A := A) (e := atE ds es) p1.isList p2.isList (by rw [z1, z2]; exact hl) (by omega) (items hdp hs qs r1 r2)
            have ev : (List.range us.toArray.size).all (atE ds es) = eqD (.lst ds) (.lst es) := by
              unfold eqD
              rw [z1, <- eqDs_all ds es hl]
              rfl
            rw [ev] at key
            exact SeqAt.EqAt.of_refs hab key
          · have key := SeqAt.RcAt.lists_lengths (A := A) p1.isList p2.isList (by rw [z1, z2]; exact bne_iff_ne.mpr hl) (by omega)
            have ev : false = eqD (.lst ds) (.lst es) := by
              unfold eqD
              rw [eqDs_len ds es hl]
            rw [ev] at key
            exact SeqAt.EqAt.of_refs hab key
theorem all_T {ds es : List Da} {us ws : List Value} (q1 : ds.length = us.length) (q2 : es.length = ws.length) : ((List.range (min us.toArray.size ws.toArray.size)).all (atE ds es) && us.toArray.size == ws.toArray.size) = eqDs ds es := by
  have z1 : us.toArray.size = ds.length := by simp; omega
  have z2 : ws.toArray.size = es.length := by simp; omega
  rw [z1, z2]
  by_cases hl : ds.length = es.length
  · rw [<- eqDs_all ds es hl, hl, Nat.min_self, beq_self_eq_true, Bool.and_true]
    rfl
  · rw [eqDs_len ds es hl, beq_eq_false_iff_ne.mpr hl, Bool.and_false]
def rCmpD (K : PySem.W.Frag) (f : Bool -> Bool) : R2 := fun x y H Q => ∃ a b xs ys ds es, x = .ref a /\ y = .ref b /\ ((SqT K H a xs /\ SqT K H b ys) \/ (SqL K H a xs /\ SqL K H b ys)) /\ Isds K H ds xs /\ Isds K H es ys /\ depDs ds <= 50 /\ Q (.bl (f (eqDs ds es))) H
theorem op_neD (hu : X.A.units + 64 < cLine) : OpR X (compareOp .NotEq) (rCmpD X.K not) := by
  intro pins s σ H x y v u Q I rx ry h
  obtain ⟨a, b, xs, ys, ds, es, rfl, rfl, hq, hs, qs, hd, q⟩ := h
  cases rx
  cases ry
  have items := fun {us ws : List Value} (r1 : Vals xs us) (r2 : Vals ys ws) => items_D (s := s) (H := H) (n := 50) (A := X.A.in1) (fun d e v x u w h1 h2 h3 h4 h5 => eqAt_D I 50 d e h1 h2 h3 h4 h5 (by show X.A.units + 1 + 50 < cLine; omega)) hd hs qs r1 r2
  rcases hq with ⟨ha, hb⟩ | ⟨ha, hb⟩
  · obtain ⟨us, r1, p1, _⟩ := I.tuple ha
    obtain ⟨ws, r2, p2, _⟩ := I.tuple hb
    refine SeqAt.RcNeAt.tuples (e := atE ds es) (show s.heap.IsTuple a us.toArray from p1) (show s.heap.IsTuple b ws.toArray from p2) (by omega) (items r1 r2) _ _ _ _ ?_
    rw [all_T (hs.len.trans r1.length) (qs.len.trans r2.length)]
    exact ⟨.bl _, H, I, rfl, q⟩
  · obtain ⟨us, r1, p1, _⟩ := I.list ha
    obtain ⟨ws, r2, p2, _⟩ := I.list hb
    have z1 : us.toArray.size = ds.length := by have q1 := hs.len; have q3 := r1.length; simp; omega
    have z2 : ws.toArray.size = es.length := by have q1 := qs.len; have q3 := r2.length; simp; omega
    by_cases hl : ds.length = es.length
    · refine SeqAt.RcNeAt.lists (e := atE ds es) p1.isList p2.isList (by rw [z1, z2]; exact hl) (by omega) (items r1 r2) _ _ _ _ ?_
      have ev : (List.range us.toArray.size).all (atE ds es) = eqDs ds es := by
        rw [z1, <- eqDs_all ds es hl]
        rfl
      rw [ev]
      exact ⟨.bl _, H, I, rfl, q⟩
    · refine SeqAt.RcNeAt.lists_lengths p1.isList p2.isList (by rw [z1, z2]; exact bne_iff_ne.mpr hl) (by omega) _ _ _ _ ?_
      have ev : true = !eqDs ds es := by rw [eqDs_len ds es hl]; rfl
      rw [ev]
      exact ⟨.bl _, H, I, rfl, q⟩
end
end L2
namespace L2
open PySem PySem.Spec PyProof.Rows
theorem clos_loop (env : Env) : ∀ (names : List (Str × NameKind)) (cs : List (Str × Addr)), (∀ x, (x, NameKind.free) ∈ names -> ∃ c, env.cells.lookup x = some c) ->
    (∀ x c, cs.lookup x = some c -> env.cells.lookup x = some c) ->
    ∃ cl : List (Str × Addr), (forIn names cs fun (x : Str × NameKind) (r : List (Str × Addr)) => if (x.snd == NameKind.free) = true then do let a <- cellOf env x.fst; pure (ForInStep.yield ((x.fst, a) :: r)) else (pure (ForInStep.yield r) : Sem _)) = (pure cl : Sem _) /\
      (∀ x c, cl.lookup x = some c -> env.cells.lookup x = some c) /\ ∀ x, ((x, NameKind.free) ∈ names \/ ∃ c, cs.lookup x = some c) -> ∃ c, cl.lookup x = some c
  | [], cs, _, h2 => ⟨cs, rfl, h2, fun x hx => hx.elim (fun z => nomatch z) fun z => z⟩
  | (n, k) :: r, cs, h1, h2 => by
    cases hk : (k == NameKind.free) with
    | true =>
      have ek : k = .free := by simpa using hk
      subst ek
      obtain ⟨c, hc⟩ := h1 n List.mem_cons_self
      obtain ⟨cl, e, a, b⟩ := clos_loop env r ((n, c) :: cs) (fun x hx => h1 x (List.mem_cons_of_mem _ hx)) (fun x d hd => by
        rw [List.lookup_cons] at hd
        cases hx : x == n with
        | true =>
          rw [hx] at hd
          have : x = n := by simpa using hx
          subst this
          cases hd
          exact hc
        | false => rw [hx] at hd; exact h2 x d hd)
      refine ⟨cl, ?_, a, fun x hx => b x ?_⟩
      · rw [<- e, List.forIn_cons]
        have hcell : cellOf env n = pure c := by unfold cellOf; rw [hc]
        simp only [hk, if_true]
        rw [hcell]
        rfl
      · rcases hx with hx | ⟨d, hd⟩
        · rcases List.mem_cons.mp hx with q | q
          · cases q
            exact .inr ⟨c, by rw [List.lookup_cons]; simp⟩
          · exact .inl q
        · refine .inr ?_
          rw [List.lookup_cons]
          cases hx : x == n with
          | true => exact ⟨c, rfl⟩
          | false => exact ⟨d, hd⟩
    | false =>
      obtain ⟨cl, e, a, b⟩ := clos_loop env r cs (fun x hx => h1 x (List.mem_cons_of_mem _ hx)) h2
      refine ⟨cl, ?_, a, fun x hx => b x ?_⟩
      · rw [<- e, List.forIn_cons]
        simp only [hk, Bool.false_eq_true, if_false]
        rfl
      · rcases hx with hx | hx
        · rcases List.mem_cons.mp hx with q | q
          · cases q
            simp at hk
          · exact .inl q
        · exact .inr hx
theorem clos_ok {scope : Scope} {env : Env} (h1 : ∀ x, (x, NameKind.free) ∈ scope.names -> ∃ c, env.cells.lookup x = some c) :
    ∃ cl : List (Str × Addr), closureFor scope env = pure cl /\ (∀ x c, cl.lookup x = some c -> env.cells.lookup x = some c) /\ ∀ x, (x, NameKind.free) ∈ scope.names -> ∃ c, cl.lookup x = some c := by
  obtain ⟨cl, e, a, b⟩ := clos_loop env scope.names [] h1 (fun x c h => by simp at h)
  refine ⟨cl, ?_, a, fun x hx => b x (.inl hx)⟩
  simp only [closureFor]
  rw [e]
  rfl
def Cx.comp (X : Cx) (sc : Scope) (cl : List (Str × Addr)) (C : Addr) (N : List Str) (s : Shared) (H : Hp) (fp : List Addr) : Cx :=
  { X with N := N, s₀ := s, H₀ := H, env := compEnvC sc cl C X.env, outer := X.stack, ex := fp, fn := fun _ => false, pn := [], xe := fun _ _ => False }
def compChk (N : List Str) (osc sc : Scope) (t : Str) (ys : List Str) (js : List Nat) : Bool :=
  sc.kind == .function && sc.names.all (fun y => y.2 != .cell) && sc.names.all (fun y => y.2 != .local || sc.names.lookup y.1 == some .local) &&
  sc.names.all (fun y => y.2 != .free || osc.names.lookup y.1 == some .cell) && (ys.map some == js.map fun j => N[j]?) &&
  ys.all (fun y => sc.names.lookup y == some .free) && sc.names.lookup t == some .local && decide ((t :: ys).Nodup)
structure CompOk (N : List Str) (osc sc : Scope) (t : Str) (ys : List Str) (js : List Nat) : Prop where
  kind : sc.kind = .function
  ncell : ∀ y ∈ sc.names, y.2 ≠ .cell
  loc : ∀ y ∈ sc.names, y.2 = .local -> sc.names.lookup y.1 = some .local
  fre : ∀ y ∈ sc.names, y.2 = .free -> osc.names.lookup y.1 = some .cell
  ysj : ys.map some = js.map fun j => N[j]?
  ysf : ∀ y ∈ ys, sc.names.lookup y = some .free
  tl : sc.names.lookup t = some .local
  nd : (t :: ys).Nodup
theorem compOk_of {N : List Str} {osc sc : Scope} {t : Str} {ys : List Str} {js : List Nat} (h : compChk N osc sc t ys js = true) : CompOk N osc sc t ys js := by
  unfold compChk at h
  simp only [Bool.and_eq_true, List.all_eq_true, decide_eq_true_eq, Bool.or_eq_true, bne_iff_ne, beq_iff_eq] at h
  obtain ⟨⟨⟨⟨⟨⟨⟨a, b⟩, c⟩, d⟩, e⟩, f⟩, g⟩, i⟩ := h
  exact ⟨a, fun y hy => b y hy, fun y hy z => (c y hy).resolve_left fun q => q z, fun y hy z => (d y hy).resolve_left fun q => q z, e, f, g, i⟩
def compS (js : List Nat) (σ : St) : St := js.map fun j => (σ[j]?).join
theorem relabel_inv {env : Env} {x : Str} : ∀ {names : List (Str × NameKind)} {k : NameKind}, (names.map fun (n, k) => if (k == NameKind.free && env.scope.kind == .function && env.kindOf n == some .cell) then (n, NameKind.cell) else (n, k)).lookup x = some k ->
    names.lookup x = some k \/ (k = .cell /\ names.lookup x = some .free)
  | [], _, h => by simp at h
  | (n, q) :: r, k, h => by
    have ih := @relabel_inv env x r k
    have h' : List.lookup x ((if (q == NameKind.free && env.scope.kind == .function && env.kindOf n == some .cell) = true then (n, NameKind.cell) else (n, q)) :: _) = some k := h
    cases hx : x == n with
    | true =>
      by_cases hc : (q == NameKind.free && env.scope.kind == .function && env.kindOf n == some .cell) = true
      · rw [if_pos hc] at h'
        simp only [List.lookup_cons, hx] at h' ⊢
        have eq : q = .free := by simp only [Bool.and_eq_true, beq_iff_eq] at hc; exact hc.1.1
        cases h'
        exact .inr ⟨rfl, by rw [eq]⟩
      · rw [if_neg hc] at h'
        simp only [List.lookup_cons, hx] at h' ⊢
        exact .inl h'
    | false =>
      by_cases hc : (q == NameKind.free && env.scope.kind == .function && env.kindOf n == some .cell) = true
      · rw [if_pos hc] at h'
        simp only [List.lookup_cons, hx] at h' ⊢
        exact ih h'
      · rw [if_neg hc] at h'
        simp only [List.lookup_cons, hx] at h' ⊢
        exact ih h'
theorem relabel_free {env : Env} {x : Str} : ∀ {names : List (Str × NameKind)}, names.lookup x = some .free ->
    (names.map fun (n, k) => if (k == NameKind.free && env.scope.kind == .function && env.kindOf n == some .cell) then (n, NameKind.cell) else (n, k)).lookup x = some .cell \/
    (names.map fun (n, k) => if (k == NameKind.free && env.scope.kind == .function && env.kindOf n == some .cell) then (n, NameKind.cell) else (n, k)).lookup x = some .free
  | [], h => by simp at h
  | (n, q) :: r, h => by
    have ih := @relabel_free env x r
    show List.lookup x ((if (q == NameKind.free && env.scope.kind == .function && env.kindOf n == some .cell) = true then (n, NameKind.cell) else (n, q)) :: _) = some .cell \/ List.lookup x ((if (q == NameKind.free && env.scope.kind == .function && env.kindOf n == some .cell) = true then (n, NameKind.cell) else (n, q)) :: _) = some .free
    cases hx : x == n with
    | true =>
      simp only [List.lookup_cons, hx] at h
      cases h
      by_cases hc : (NameKind.free == NameKind.free && env.scope.kind == .function && env.kindOf n == some .cell) = true
      · rw [if_pos hc]; exact .inl (by simp only [List.lookup_cons, hx])
      · rw [if_neg hc]; exact .inr (by simp only [List.lookup_cons, hx])
    | false =>
      simp only [List.lookup_cons, hx] at h
      by_cases hc : (q == NameKind.free && env.scope.kind == .function && env.kindOf n == some .cell) = true
      · rw [if_pos hc]; simp only [List.lookup_cons, hx]; exact ih h
      · rw [if_neg hc]; simp only [List.lookup_cons, hx]; exact ih h
def PIf (X : Cx) (ifs : List Expr) (t : TT) : Prop :=
  ∀ (pins : List (Addr × Obj)) (s : Shared) (σ : St) (H : Hp) (Q : Bool -> Hp -> Prop), Inv X pins σ H s -> t σ H Q ->
    wpAny (model X.prog X.w) X.A (forIn ifs true fun c r => if r = true then do let ok <- isTrue c X.env (eval c X.env); pure (ForInStep.yield ok) else pure (ForInStep.yield r)) (TP X pins σ Q) X.xe s
def tYes : TT := fun _ H Q => Q true H
theorem pif_nil {X : Cx} : PIf X [] tYes := fun _ _ _ H _ I h => wpAny_tests_nil ⟨H, I, h⟩
theorem comp_turns {prog : Program} {w : World} {A : Around} {R : Result -> Shared -> Prop} {s : Shared} {elt target iter : Expr} {ifs : List Expr} {scope : Scope} {pos : Pos} {it acc : Value} {env : Env} (J : Nat -> Shared -> Prop)
    (turn : ∀ n s0, J n s0 -> wpAny (model prog w) A (pyNext it) (fun r s1 => match r with
      | none => R (.ok .next) s1
      | some v => wpAny (model prog w) A (letOwnedTupleGo target it v) (fun _ s2 => wpAny (model prog w) A (assign target env v) (fun _ s3 =>
          wpAny (model prog w) A (forIn ifs true fun c r => if r = true then do let ok <- isTrue c env (eval c env); pure (ForInStep.yield ok) else pure (ForInStep.yield r)) (fun ok s4 =>
            if ok = true then wpAny (model prog w) A (eval elt env) (fun x s5 =>
              wpAny (model prog w) A (call (.builtin "list.append") [acc, x]) (fun _ s6 => ∃ m, m < n /\ J m s6) (fun _ _ => False) s5) (fun _ _ => False) s4
            else ∃ m, m < n /\ J m s4) (fun _ _ => False) s3) (fun _ _ => False) s2) (fun _ _ => False) s1) (fun _ _ => False) s0)
    (n : Nat) (h : J n s) : codeAny (model prog w) A (.compLoop (.ListComp elt [⟨target, iter, ifs, 0⟩] scope pos) 0 it acc env) R s := by
  have up : ∀ {α : Type} {t : Sem α} {Q Q' : α -> Shared -> Prop} {E : Value -> Shared -> Prop} {s0 : Shared}, wpAny (model prog w) A t Q (fun _ _ => False) s0 -> (∀ a s', Q a s' -> Q' a s') -> wpAny (model prog w) A t Q' E s0 :=
    fun h0 hq => wpAny_mono h0 hq fun _ _ z => z.elim
  refine codeAny_loop rfl J ?_ n h
  intro k s0 hJ
  show wpAny _ A ((compTurn (.ListComp elt [⟨target, iter, ifs, 0⟩] scope pos) 0 it acc env).onRaise (fun x => do noteFrame x env; theTreesLotGoes x)) _ _ s0
  refine wpAny_noted ?_
  rw [compTurn_list]
  refine wpAny_bind (wpAny_standAt (wpAny_bind (up (turn k s0 hJ) fun r s1 h1 => ?_)))
  cases r with
  | none => exact wpAny_pure h1
  | some v =>
    refine wpAny_bind (up h1 fun _ s2 h2 => wpAny_bind (up h2 fun _ s3 h3 => wpAny_bind (up h3 fun ok s4 h4 => ?_)))
    cases ok with
    | false => exact wpAny_pure ⟨rfl, h4⟩
    | true => exact wpAny_bind (wpAny_bind (up h4 fun x s5 h5 => wpAny_bind (up h5 fun _ s6 h6 => wpAny_pure (wpAny_pure ⟨rfl, h6⟩))))
def CompW (J : It) (js : List Nat) (tc : TT) (te : TE) (σ : St) (Q : VK) (D : Addr) (H1 : Hp) : Prop := ∃ W : Nat -> Nat -> List V -> Hp -> Prop, (∃ m, W 0 m [] (upd H1 D (.lst []))) /\
  ∀ i m acc H, W i m acc H -> H D = some (.lst acc) /\ acc.length < sizeLine /\ ((J.stop i H /\ Q (.ref D) H) \/ (J.go i H /\ ∀ x H', J.yld i H x H' -> tc (some x :: compS js σ) H' fun c H3 =>
    if c = true then te (some x :: compS js σ) H3 fun y H4 => H4 D = some (.lst acc) /\ ∃ m', m' < m /\ W (i + 1) m' (acc ++ [y]) (upd H4 D (.lst (acc ++ [y]))) else ∃ m', m' < m /\ W (i + 1) m' acc H3))
def tComp (wi : TI) (js : List Nat) (tc : TT) (te : TE) : TE := fun σ H Q => wi σ H fun J H1 => ∀ D, H1 D = none -> CompW J js tc te σ Q D H1
theorem pe_comp {X : Cx} {elt iter : Expr} {ifs : List Expr} {sc : Scope} {pos px : Pos} {t : Str} {ys : List Str} {js : List Nat} {wi : TI} {tc : TT} {te : TE} (hc : X.calm = true) (hck : compChk X.N X.env.scope sc t ys js = true)
    (hi : PI X (.Name t px) iter wi) (hf : ∀ cl C s H fp, PIf (X.comp sc cl C (t :: ys) s H fp) ifs tc) (he : ∀ cl C s H fp, PE (X.comp sc cl C (t :: ys) s H fp) elt te)
    (hs : ∀ x, foldedSetIterable iter X.env x = pure x := by intro _; rfl) : PE X (.ListComp elt [⟨.Name t px, iter, ifs, 0⟩] sc pos) (tComp wi js tc te) := by
  have ck := compOk_of hck
  intro pins s σ H Q I h
  have hfr : ∀ x, (x, NameKind.free) ∈ sc.names -> ∃ c, X.env.cells.lookup x = some c := fun x hx => I.ok.has x (.inl (ck.fre _ hx rfl))
  obtain ⟨cl, hcl, cl1, cl2⟩ := clos_ok hfr
  rw [eval_ListComp]
  refine wpAny_comprehension_free (use := none) rfl hs hcl ck.kind ck.loc (thn (hi pins s σ H _ I h) fun v s1 h1 => thn h1 fun itv s2 h2 => ?_)
  obtain ⟨it, fp, tn, J, H2, e, I2, T, st2, f2, hR⟩ := h2
  subst e
  refine wpAny_newObj_type (wpAny_newFunctionEnv ck.ncell (by intro y hy; simp at hy) (fun h1 hns hsb => ?_) ck.kind)
  dsimp only at hns hsb ⊢
  generalize hp : s2.heap.push { cls := .type "list", dict := none, data := .seq ([] : List Value).toArray } = hh at hns hsb ⊢
  have hC : hh.objs.size = s2.heap.objs.size + 1 := by rw [<- hp, Heap.size_push]
  have neD : ∀ {b : Addr}, b < s2.heap.objs.size -> b ≠ s2.heap.objs.size := fun hb => Nat.ne_of_lt hb
  have neC : ∀ {b : Addr}, b < s2.heap.objs.size -> b ≠ hh.objs.size := fun hb => by rw [hC]; exact Nat.ne_of_lt (Nat.lt_succ_of_lt hb)
  have hDC : s2.heap.objs.size ≠ hh.objs.size := by rw [hC]; exact Nat.ne_of_lt (Nat.lt_succ_self _)
  have hCle : s2.heap.objs.size <= hh.objs.size := by rw [hC]; exact Nat.le_succ _
  have old : ∀ b o, s2.heap.get? b = some o -> h1.get? b = some o := fun b o e => hsb.extBut b o (neC (Heap.lt_size e)) (Heap.get?_push_of_some _ (hp ▸ Heap.get?_push_of_some _ e))
  have hnew : h1.get? s2.heap.objs.size = some { cls := .type "list", dict := none, data := .seq ([] : List Value).toArray } := hsb.extBut _ _ hDC (Heap.get?_push_of_some _ (hp ▸ Heap.get?_push_size _ rfl))
  have fpH : ∀ b ∈ fp, ∃ o, s2.heap.get? b = some o := fun b hb => let ⟨o, e, _⟩ := T.obj 0 _ st2 b hb; ⟨o, e⟩
  have fpD : ∀ b ∈ fp, b ≠ s2.heap.objs.size := fun b hb => by obtain ⟨o, e⟩ := fpH b hb; exact neD (Heap.lt_size e)
  have fpC : ∀ b ∈ fp, b ≠ hh.objs.size := fun b hb => by obtain ⟨o, e⟩ := fpH b hb; exact neC (Heap.lt_size e)
  have fpS : ∀ b ∈ fp, b ∉ frs X.stack := fun b hb z => (List.mem_cons.mp (I2.stkSub b z)).elim (f2 b hb).2.1 (f2 b hb).2.2.1
  have hok' : (X.comp sc cl hh.objs.size (t :: ys) s2 H2 fp).Ok := by
    refine ⟨I2.ok.mod, ck.kind, I2.ok.glob, I2.ok.blt, hCle, fun x y c a b => I2.ok.inj x y c (cl1 x c a) (cl1 y c b), fun x hx => ?_, (fun x c z => nomatch z), I2.ok.hd, I2.ok.frames, .inl rfl, fun b hb => ⟨fpC b hb, fun x c a => (f2 b hb).2.2.2.2.1 x c (cl1 x c a)⟩,
      I2.bs, Nat.le_trans I2.ok.bsz I2.sz, fun b o e hb => ?_, fun b hb => fpS b hb, I2.stack, I2.stkFree⟩
    · have hx' : (sc.names.map fun (n, k) => if (k == NameKind.free && X.env.scope.kind == .function && X.env.kindOf n == some .cell) then (n, NameKind.cell) else (n, k)).lookup x = some .cell \/ (sc.names.map fun (n, k) => if (k == NameKind.free && X.env.scope.kind == .function && X.env.kindOf n == some .cell) then (n, NameKind.cell) else (n, k)).lookup x = some .free := hx
      rcases hx' with z | z
      · rcases relabel_inv z with q | ⟨_, q⟩
        · exact absurd rfl (ck.ncell _ (PySem.mem_of_lookup q))
        · exact cl2 x (PySem.mem_of_lookup q)
      · rcases relabel_inv z with q | ⟨q, _⟩
        · exact cl2 x (PySem.mem_of_lookup q)
        · cases q
    · rcases (f2 b hb).2.2.2.1 with z | z
      · exact I2.ok.noex b o e z
      · exact absurd (Nat.lt_of_lt_of_le (Heap.lt_size e) (Nat.le_trans I2.ok.bsz z)) (Nat.lt_irrefl _)
  have Iin : ∀ tk : Nat, Inv (X.comp sc cl hh.objs.size (t :: ys) s2 H2 fp) [] (none :: compS js σ) (upd H2 s2.heap.objs.size (.lst [])) { s2 with heap := h1, toks := tk } := fun tk => by
    refine ⟨hok', rfl, I2.bare, Un.laid old (Nat.le_refl _) I2.fresh, ⟨_, hns, fun i x v e1 e2 e3 => ?_⟩, fun x c e => ?_, ?_, fun x c e => ?_, fun p hp => absurd (show p ∈ ([] : List (Addr × Obj)) from hp) (by simp), I2.hok.laid old (Nat.le_refl _) ⟨Nat.zero_le _, [], 0, .nil, hnew⟩, ?_⟩
    · cases i with
      | zero => simp at e2
      | succ k =>
        have e1' : ys[k]? = some x := e1
        have e2' : (compS js σ)[k]? = some (some v) := by simpa using e2
        unfold compS at e2'
        rw [List.getElem?_map] at e2'
        have q := congrArg (fun l => l[k]?) ck.ysj
        simp only [List.getElem?_map, e1', Option.map_some] at q
        cases hj : js[k]? with
        | none => rw [hj] at q; cases q
        | some j =>
          rw [hj] at q e2'
          have q1 : X.N[j]? = some x := (Option.some.inj q).symm
          have q2 : σ[j]? = some (some v) := by
            have z : (σ[j]?).join = some v := Option.some.inj e2'
            cases hz : σ[j]? with
            | none => rw [hz] at z; cases z
            | some y => rw [hz] at z; exact congrArg some z
          have hf' := ck.ysf x (List.mem_of_getElem? e1')
          have hcell := ck.fre _ (PySem.mem_of_lookup hf') rfl
          obtain ⟨m2, hn2, hl2⟩ := I2.loc
          obtain ⟨u, ru, lk⟩ := hl2 j x v q1 q2 (.inr (.inl hcell))
          refine ⟨u, ru, ?_⟩
          rcases lk with ⟨kk, _⟩ | ⟨_, c, ec, ic⟩
          · have kk' : X.env.scope.names.lookup x = some .local := kk
            have hcell' : X.env.scope.names.lookup x = some .cell := hcell
            rw [hcell'] at kk'; cases kk'
          · obtain ⟨c', ec'⟩ := cl2 x (PySem.mem_of_lookup hf')
            have : c' = c := Option.some.inj ((cl1 x c' ec').symm.trans ec)
            subst this
            refine .inr ⟨relabel_free hf', c', ec', ?_⟩
            obtain ⟨o, ho, hd⟩ := ic
            exact ⟨o, old _ o ho, hd⟩
    · obtain ⟨v, o, ho, hd⟩ := I2.cell x c (cl1 x c e)
      exact ⟨v, o, old _ o ho, hd⟩
    · show upd H2 s2.heap.objs.size _ hh.objs.size = none
      rw [upd_ne (Ne.symm hDC)]
      exact I2.hok.fresh hCle
    · obtain ⟨v, o, ho, hd⟩ := I2.cell x c (cl1 x c e)
      rw [upd_ne (neD (Heap.lt_size ho))]
      exact I2.freeC x c (cl1 x c e)
    · show (none :: compS js σ).length = (t :: ys).length
      have q := congrArg List.length ck.ysj
      simp only [List.length_map] at q
      unfold compS
      simp only [List.length_cons, List.length_map]
      omega
  have st1 : tn 0 h1 := T.keep _ _ _ st2 fun b hb o e => old b o e
  obtain ⟨W, ⟨m0, w0⟩, turn⟩ := hR s2.heap.objs.size I2.fresh
  have fpok : ∀ {H' : Hp}, (∀ b ∈ fp, H' b = none) -> ∀ b ∈ fp, FpOk (X.comp sc cl hh.objs.size (t :: ys) s2 H2 fp) [] H' b := fun hn b hb =>
    ⟨hn b hb, fpC b hb, fpS b hb, .inl hb, fun x c a => (f2 b hb).2.2.2.2.1 x c (cl1 x c a), fun p hp => absurd (show p ∈ ([] : List (Addr × Obj)) from hp) (by simp)⟩
  have ndN : (t :: ys).Nodup := ck.nd
  have loop : ∀ s3 : Shared, s3 = { s2 with heap := h1, toks := s2.toks + ([] : List (Str × Value)).length } ->
      codeAny (model X.prog X.w) X.A (.compLoop (.ListComp elt [⟨.Name t px, iter, ifs, 0⟩] sc pos) 0 (.ref it) (.ref s2.heap.objs.size) (compEnvC sc cl hh.objs.size X.env))
        (compPost (model X.prog X.w) X.A X.xe none (EP X pins σ Q) (.ref s2.heap.objs.size) hh.objs.size) s3 := by
    rintro s3 rfl
    refine comp_turns (fun n s' => ∃ i acc H', Inv (X.comp sc cl hh.objs.size (t :: ys) s2 H2 fp) [] (none :: compS js σ) H' s' /\ tn i s'.heap /\ (∀ b ∈ fp, H' b = none) /\ W i n acc H') ?_ m0
      ⟨0, [], _, Iin _, st1, fun b hb => by rw [upd_ne (fpD b hb)]; exact (f2 b hb).1, w0⟩
    rintro n s3 ⟨i, acc, H3, I3, st3, fr3, w3⟩
    obtain ⟨hD, hz, alt⟩ := turn i n acc H3 w3
    rcases alt with ⟨stop, q⟩ | ⟨go, step⟩
    · refine thn (T.done (X.comp sc cl hh.objs.size (t :: ys) s2 H2 fp) rfl rfl rfl hc i [] s3 _ H3 _ I3 (fpok fr3) st3 stop) fun r s4 ⟨hr, I4⟩ => ?_
      subst hr
      obtain ⟨m, hn, _⟩ := id I4.loc
      refine ⟨m, hn, fun h' sb => ⟨.ref s2.heap.objs.size, H3, ?_, rfl, q⟩⟩
      have ltC : ∀ b o, s2.heap.get? b = some o -> b ≠ hh.objs.size := fun b o e => neC (Heap.lt_size e)
      have b4 : Un (frs X.stack) fp H2 H3 s2.heap s4.heap := I4.base
      refine I2.call' (s' := { s4 with heap := h' }) (ch := fp) I4.os ⟨fun b o e n1 n2 n3 => (sb.2 b (ltC b o e)).trans (b4.keep b o e n1 n2 n3), fun b o e n1 n2 n3 => ?_, b4.free, fun b o e n1 => ?_, b4.tups, b4.frzs, b4.tbls⟩ (fun b ob e => ?_) I4.bare
        (fun b hb => ⟨(f2 b hb).2.2.2.1, (f2 b hb).2.1, (f2 b hb).2.2.2.2.1, (f2 b hb).2.2.2.2.2⟩)
      · obtain ⟨sl, e1⟩ := b4.slot b o e n1 n2 n3
        exact ⟨sl, (sb.2 b (ltC b o e)).trans e1⟩
      · obtain ⟨o', e1⟩ := b4.there b o e n1
        exact ⟨o', (sb.2 b (ltC b o e)).trans e1⟩
      · have hfree : H3 hh.objs.size = none := I4.free
        refine (I4.hok b ob e).stay (fun c w' hc' q' => (sb.2 c ?_).trans q') (fun _ q' => q') fun _ _ q' => q'
        rintro rfl
        rcases hc' with rfl | hc'
        · rw [hfree] at e; cases e
        · rw [hfree] at hc'; cases hc'
    · refine thn (T.item (X.comp sc cl hh.objs.size (t :: ys) s2 H2 fp) rfl rfl rfl hc i [] s3 _ H3 _ I3 (fpok fr3) st3 go) fun r s4 ⟨u, hr, h4⟩ => ?_
      subst hr
      refine thn h4 fun _ s5 ⟨x, H5, I5, r5, y5, st5, fr5⟩ => ?_
      have I5' := I5.pinned (fpok fr5) (T.obj _ _ st5)
      refine wpAny_assign_Name (store_ok (i := 0) I5' ndN rfl (.inl (lookup_relabel_local ck.tl)) r5 (fun s6 I6 => ?_) (.inr (lookup_relabel_local ck.tl)))
      have again : ∀ {H7 : Hp} {s7 : Shared} {m' : Nat} {acc' : List V}, Inv (X.comp sc cl hh.objs.size (t :: ys) s2 H2 fp) ([] ++ pinsAt fp s5.heap) (some x :: compS js σ) H7 s7 -> m' < n -> W (i + 1) m' acc' H7 ->
          ∃ m, m < n /\ ∃ i acc H', Inv (X.comp sc cl hh.objs.size (t :: ys) s2 H2 fp) [] (none :: compS js σ) H' s7 /\ tn i s7.heap /\ (∀ b ∈ fp, H' b = none) /\ W i m acc H' := fun {H7 s7 m' acc'} I7 hm w7 => by
        refine ⟨m', hm, i + 1, acc', H7, (I7.unpinned).weak rfl (fun k v e => ?_), T.keep _ _ _ st5 fun b hb o e => (I7.pin (b, o) (List.mem_append_right _ (List.mem_append_right _ (mem_pinsAt hb e)))).1, fun b hb => ?_, w7⟩
        · cases k with
          | zero => simp at e
          | succ k => simpa using e
        · obtain ⟨o, e, d⟩ := T.obj _ _ st5 b hb
          exact (I7.pin (b, o) (List.mem_append_right _ (List.mem_append_right _ (mem_pinsAt hb e)))).2.1
      refine thn (hf _ _ _ _ _ _ s6 _ H5 _ I6 (step x H5 y5)) fun ok s7 ⟨H7, I7, q7⟩ => ?_
      cases ok with
      | false =>
        obtain ⟨m', hm, w7⟩ := q7
        exact again I7 hm w7
      | true =>
        refine thn (he _ _ _ _ _ _ s7 _ H7 _ I7 q7) fun uy s8 ⟨y, H8, I8, r8, hD8, m', hm, w8⟩ => ?_
        refine thn (mt_append (X := X.comp sc cl hh.objs.size (t :: ys) s2 H2 fp) _ s8 _ H8 (.ref s2.heap.objs.size) [y] (.ref s2.heap.objs.size) [uy] (fun _ H9 => W (i + 1) m' (acc ++ [y]) H9) I8 rfl (.cons r8 .nil) ⟨_, acc, y, rfl, rfl, hD8, hz, w8⟩) fun _ s9 ⟨_, H9, I9, _, q9⟩ => ?_
        exact again I9 hm q9
  exact codeAny_compStart_list (loop _ rfl) (T.self _ 0 _ _ _ st1 (loop _ rfl))
theorem cstep {n i m : Nat} {A B : Prop} (hi : i < n) (hm : m = n - i) (a : A) (b : B) : A /\ ∃ m', m' < m /\ (m' = n - (i + 1) /\ i + 1 <= n /\ B) := ⟨a, n - (i + 1), by omega, rfl, hi, b⟩
theorem comp_rng {lo : Int} {n : Nat} {js : List Nat} {te : TE} {σ : St} {Q : VK} {D : Addr} {H1 : Hp} (Pv : Nat -> List V -> Hp -> Prop) (hz : n < sizeLine) (h0 : Pv 0 [] (upd H1 D (.lst [])))
    (hl : ∀ i acc H, Pv i acc H -> H D = some (.lst acc) /\ acc.length = i)
    (hs : ∀ i m acc H, i < n -> Pv i acc H -> m = n - i -> te (some (.int (lo + i)) :: compS js σ) H fun y H4 => H4 D = some (.lst acc) /\ ∃ m', m' < m /\ (m' = n - (i + 1) /\ i + 1 <= n /\ Pv (i + 1) (acc ++ [y]) (upd H4 D (.lst (acc ++ [y])))))
    (hd : ∀ acc H, Pv n acc H -> Q (.ref D) H) : CompW (Itr lo n) js tYes te σ Q D H1 := by
  refine ⟨fun i m acc H => m = n - i /\ i <= n /\ Pv i acc H, ⟨n, by simp, Nat.zero_le _, h0⟩, ?_⟩
  rintro i m acc H ⟨hm, hi, p⟩
  obtain ⟨hD, hlen⟩ := hl i acc H p
  refine ⟨hD, by omega, ?_⟩
  by_cases hlt : i < n
  · refine .inr ⟨hlt, fun x H' y => ?_⟩
    obtain ⟨e, y⟩ := y
    subst e y
    unfold tYes
    dsimp only
    rw [if_pos rfl]
    exact hs i m acc _ hlt p hm
  · have e : i = n := by omega
    subst e
    exact .inl ⟨Nat.le_refl _, hd acc H p⟩
theorem comp_lst {K : PySem.W.Frag} {a : Addr} {xs : List V} {js : List Nat} {te : TE} {σ : St} {Q : VK} {D : Addr} {H1 : Hp} (Pv : Nat -> List V -> Hp -> Prop) (hz : xs.length < sizeLine) (h0 : Pv 0 [] (upd H1 D (.lst [])))
    (hl : ∀ i acc H, Pv i acc H -> H D = some (.lst acc) /\ acc.length = i /\ SqL K H a xs)
    (hs : ∀ i m x acc H, xs[i]? = some x -> Pv i acc H -> m = xs.length - i -> te (some x :: compS js σ) H fun y H4 => H4 D = some (.lst acc) /\ ∃ m', m' < m /\ (m' = xs.length - (i + 1) /\ i + 1 <= xs.length /\ Pv (i + 1) (acc ++ [y]) (upd H4 D (.lst (acc ++ [y])))))
    (hd : ∀ acc H, Pv xs.length acc H -> Q (.ref D) H) : CompW (Itl K a) js tYes te σ Q D H1 := by
  refine ⟨fun i m acc H => m = xs.length - i /\ i <= xs.length /\ Pv i acc H, ⟨xs.length, by simp, Nat.zero_le _, h0⟩, ?_⟩
  rintro i m acc H ⟨hm, hi, p⟩
  obtain ⟨hD, hlen, hq⟩ := hl i acc H p
  refine ⟨hD, by omega, ?_⟩
  by_cases hlt : i < xs.length
  · refine .inr ⟨⟨xs, xs[i], hq, by simp [hlt]⟩, fun x H' y => ?_⟩
    obtain ⟨e, y⟩ := y
    subst e
    unfold tYes
    dsimp only
    rw [if_pos rfl]
    exact hs i m x acc _ (y xs hq) p hm
  · have e : i = xs.length := by omega
    subst e
    exact .inl ⟨⟨xs, hq, Nat.le_refl _⟩, hd acc H p⟩
theorem comp_tpl {K : PySem.W.Frag} {a : Addr} {xs : List V} {js : List Nat} {te : TE} {σ : St} {Q : VK} {D : Addr} {H1 : Hp} (Pv : Nat -> List V -> Hp -> Prop) (hz : xs.length < sizeLine) (h0 : Pv 0 [] (upd H1 D (.lst [])))
    (hl : ∀ i acc H, Pv i acc H -> H D = some (.lst acc) /\ acc.length = i /\ SqT K H a xs)
    (hs : ∀ i m x acc H, xs[i]? = some x -> Pv i acc H -> m = xs.length - i -> te (some x :: compS js σ) H fun y H4 => H4 D = some (.lst acc) /\ ∃ m', m' < m /\ (m' = xs.length - (i + 1) /\ i + 1 <= xs.length /\ Pv (i + 1) (acc ++ [y]) (upd H4 D (.lst (acc ++ [y])))))
    (hd : ∀ acc H, Pv xs.length acc H -> Q (.ref D) H) : CompW (Itt K a) js tYes te σ Q D H1 := by
  refine ⟨fun i m acc H => m = xs.length - i /\ i <= xs.length /\ Pv i acc H, ⟨xs.length, by simp, Nat.zero_le _, h0⟩, ?_⟩
  rintro i m acc H ⟨hm, hi, p⟩
  obtain ⟨hD, hlen, hq⟩ := hl i acc H p
  refine ⟨hD, by omega, ?_⟩
  by_cases hlt : i < xs.length
  · refine .inr ⟨⟨xs, xs[i], hq, by simp [hlt]⟩, fun x H' y => ?_⟩
    obtain ⟨e, y⟩ := y
    subst e
    unfold tYes
    dsimp only
    rw [if_pos rfl]
    exact hs i m x acc _ (y xs hq) p hm
  · have e : i = xs.length := by omega
    subst e
    exact .inl ⟨⟨xs, hq, Nat.le_refl _⟩, hd acc H p⟩
end L2
namespace L2
open PySem PySem.Spec PyProof.Rows
section
variable {X : Cx}
theorem same_new {H : Hp} {p : Addr} (h : H p = none) (o : HO) : Same H (upd H p o) := fun b u q => by rw [upd_ne (ne_of_none q h)]; exact q
theorem Same.tupS {K : PySem.W.Frag} {H H' : Hp} {a : Addr} {xs : List V} (e : Same H H') (h : SqT K H a xs) : SqT K H' a xs := by
  rcases h with (h | ⟨o, h⟩) | h
  · exact .inl (.inl (e _ _ h))
  · exact .inl (.inr ⟨o, e _ _ h⟩)
  · exact .inr h
def rCatA : R2 := fun x y H Q => ∃ a b xs ys, x = .ref a /\ y = .ref b /\ H a = some (.tup xs) /\ H b = some (.tup ys) /\ xs.length + ys.length <= sizeLine /\
  ∀ p H', Same H H' -> H' p = some (.tup (xs ++ ys)) -> Q (.ref p) H'
theorem cat_tup0 {prog : Program} {w : World} {A : Around} {E : Value -> Shared -> Prop} {s : Shared} {t b : Addr} {vs ws : List Value} {Q : Value -> Shared -> Prop} (ht : IsTup s.heap t vs.toArray) (hb : IsTup s.heap b ws.toArray) (hv : vs = []) (h : Q (.ref b) s) :
    wpAny (model prog w) A (binaryOp .Add (.ref t) (.ref b)) Q E s := by
  obtain ⟨⟨cls, dd, data, sl⟩, ho, hc, n, hd⟩ := id ht
  obtain ⟨⟨cls2, dd2, data2, sl2⟩, ho2, hc2, n2, hd2⟩ := id hb
  simp only at hc hd hc2 hd2
  subst hc hd hc2 hd2
  refine concat_meets ⟨_, ho, rfl⟩ ⟨_, ho2, rfl⟩ noFill_tuple_add seq_tuple_add PySem.F.slot_tuple_add PySem.F.entry_tuple_add (PySem.F.args_tuple_add_2 _ _) (tuple_addW0 t b vs.toArray ws.toArray n n2 dd dd2 sl sl2 (by simp [hv])) ⟨ho, ho2, h⟩
theorem op_catA : OpR X (binaryOp .Add) rCatA := by
  intro pins s σ H x y v u Q I rx ry h
  obtain ⟨a, b, xs, ys, e1, e2, ha, hb, hz, q⟩ := h
  by_cases hx : xs = []
  · subst e1 e2 hx
    cases rx
    cases ry
    obtain ⟨its, r1, p1, _⟩ := I.tuple (.of ha)
    obtain ⟨its2, r2, p2, _⟩ := I.tuple (.of hb)
    exact cat_tup0 p1 p2 (by cases r1; rfl) ⟨.ref b, H, I, rfl, q b H (Same.refl H) hb⟩
  · refine op_catT pins s σ H x y v u Q I rx ry ⟨a, b, xs, ys, e1, e2, .of ha, .of hb, hx, hz, fun hy => q a H (Same.refl H) (by rw [hy, List.append_nil]; exact ha), fun _ p hp => q p _ (same_new hp _) upd_same⟩
theorem getItem_tuple_whole {prog : Program} {w : World} {A : Around} {E : Value -> Shared -> Prop} {s : Shared} {t sl : Addr} {items : Array Value} {vl vu : Value} {lo hi : Option Int} {Q : Value -> Shared -> Prop} (ht : IsTup s.heap t items) (hs : s.heap.IsSliceOf sl vl vu .none) (pl : IsPart vl lo) (pu : IsPart vu hi)
    (hw : HT.sIx items.size 0 lo = 0 /\ HT.sIx items.size items.size hi = items.size) (h : Q (.ref t) s) : wpAny (model prog w) A (getItem (.ref t) (.ref sl)) Q E s := by
  obtain ⟨os, hos, hcs, hds⟩ := id hs
  have hTs : s.TypeIs (.ref sl) "slice" := ⟨os, hos, hcs⟩
  unfold getItem
  try with_reducible refine wpAny_holding ?_
  first | refine wpAny_bind (wpAny_pure ?_) | skip
  refine wpAny_bind (wpAny_sequenceKey ht.typeIs (by decide) ?_)
  refine wpAny_bind (wpAny_callSpecial?_slot (name := Str.ofString "__getitem__") ht.typeIs PyProof.Rows.slot_tuple_getitem (wpAny_call_entry PyProof.Rows.slot_tuple_getitem ht.typeIs entry_tuple_getitem ?_ (args_tuple_getitem _ _)))
  show wpAny _ _ (Builtin.Tuple.tupleItemsOf (.ref t) >>= _) _ _ s
  refine wpAny_bind (tupleItemsOf_ ht ?_)
  refine wpAny_bind (wpAny_typeOf hTs ?_)
  rw [if_pos (by decide)]
  refine wpAny_bind (HT.sliceApplied_gen hs pl pu ?_)
  have yes : (((HT.sIx items.size 0 lo : Nat) : Int) == 0 && (1 : Int) == 1 && (HT.sIx items.size items.size hi - HT.sIx items.size 0 lo) == items.size) = true := by
    rw [hw.1, hw.2]
    simp
  show wpAny _ _ (if (((HT.sIx items.size 0 lo : Nat) : Int) == 0 && (1 : Int) == 1 && (HT.sIx items.size items.size hi - HT.sIx items.size 0 lo) == items.size) = true then _ else _) _ _ s
  rw [if_pos yes]
  show wpAny _ _ (Builtin.Tuple.tupleIsExact (.ref t) >>= _) _ _ s
  unfold Builtin.Tuple.tupleIsExact
  refine wpAny_bind (wpAny_bind (wpAny_typeOf ht.typeIs (wpAny_pure ?_)))
  rw [if_pos (by decide)]
  first
    | exact wpAny_bind (wpAny_rule (wpAny_pure ⟨_, rfl, wpAny_pure h⟩))
    | exact wpAny_bind (wpAny_rule (wpAny_bind (wpAny_pure (wpAny_pure ⟨_, rfl, wpAny_pure h⟩))))
    | exact wpAny_bind (wpAny_rule (wpAny_bind (wpAny_pure ⟨_, rfl, wpAny_pure h⟩)))
def rSlTA : V -> Option Int -> Option Int -> Hp -> VK -> Prop := fun x lo hi H Q => ∃ a xs, x = .ref a /\ H a = some (.tup xs) /\ ∀ p H', Same H H' -> H' p = some (.tup (cutV xs lo hi)) -> Q (.ref p) H'
theorem sl_tupA : SlR X rSlTA := by
  intro pins s σ H x v vl vu lo hi sl Q I rx hs pl pu h
  obtain ⟨a, xs, e, hx, q⟩ := h
  by_cases hw : HT.sIx xs.length 0 lo = 0 /\ HT.sIx xs.length xs.length hi = xs.length
  · subst e
    cases rx
    obtain ⟨its, r, ht, hz⟩ := I.tuple (.of hx)
    have hlen : its.toArray.size = xs.length := by rw [List.size_toArray]; exact r.length.symm
    refine ⟨"tuple", _, PyProof.Rows.slot_tuple_getitem.lookup, ht.typeIs, getItem_tuple_whole ht hs pl pu (by rw [hlen]; exact hw) ⟨.ref a, H, I, rfl, q a H (Same.refl H) ?_⟩⟩
    have ec : cutV xs lo hi = xs := by unfold cutV; rw [hw.1, hw.2]; simp
    rw [ec]
    exact hx
  · exact sl_tup pins s σ H x v vl vu lo hi sl Q I rx hs pl pu ⟨a, xs, e, .of hx, hw, fun p hp => q p _ (same_new hp _) upd_same⟩
end
end L2
namespace L2
open PySem PySem.Spec PyProof.Rows
section
variable {X : Cx}
theorem call_isinst : CallR X (.builtin "isinstance") (fun xs H Q => ∃ x T t b, xs = [x, .ty T] /\ TyOf X.K H x t /\ PySem.W.kitOne X.K t (.type T) = some b /\ Q (.bl b) H) := by
  intro pins s σ H xs us Q I r h
  obtain ⟨x, T, t, b, rfl, ty, e, q⟩ := h
  obtain ⟨u, w, rfl, ru, rw'⟩ := vals2 r
  cases rw'
  exact isinst_ok I ru ty e fun tk => ⟨.bl b, H, I.tok tk, rfl, q⟩
end
end L2
namespace L2
open PySem PySem.Spec PyProof.Rows
section
variable {X : Cx} {es : List Expr} {te : TE} {t : TA} {env : Env}
theorem starT {a : List Expr} {k : Nat} {p : Pos} : starEach (.Tuple a k p :: es) env = (false, eval (.Tuple a k p) env) :: starEach es env := by first | rfl | (rw [starEach]; intro _ _ z; cases z)
theorem paT {a : List Expr} {k : Nat} {p : Pos} (ha : PE X (.Tuple a k p) te) (hr : PA X es t) : PA X (.Tuple a k p :: es) (tCons te t) := pa_cons ha hr starT
theorem starC {c : Const} {k : Nat} {p : Pos} : starEach (.Constant c k p :: es) env = (false, eval (.Constant c k p) env) :: starEach es env := by first | rfl | (rw [starEach]; intro _ _ z; cases z)
theorem paC {c : Const} {k : Nat} {p : Pos} (ha : PE X (.Constant c k p) te) (hr : PA X es t) : PA X (.Constant c k p :: es) (tCons te t) := pa_cons ha hr starC
theorem starN {x : Str} {p : Pos} : starEach (.Name x p :: es) env = (false, eval (.Name x p) env) :: starEach es env := by first | rfl | (rw [starEach]; intro _ _ z; cases z)
theorem paN {x : Str} {p : Pos} (ha : PE X (.Name x p) te) (hr : PA X es t) : PA X (.Name x p :: es) (tCons te t) := pa_cons ha hr starN
theorem starB {l r : Expr} {o : Operator} {p : Pos} : starEach (.BinOp l o r p :: es) env = (false, eval (.BinOp l o r p) env) :: starEach es env := by first | rfl | (rw [starEach]; intro _ _ z; cases z)
theorem paB {l r : Expr} {o : Operator} {p : Pos} (ha : PE X (.BinOp l o r p) te) (hr : PA X es t) : PA X (.BinOp l o r p :: es) (tCons te t) := pa_cons ha hr starB
theorem starS {v i : Expr} {p : Pos} : starEach (.Subscript v i p :: es) env = (false, eval (.Subscript v i p) env) :: starEach es env := by first | rfl | (rw [starEach]; intro _ _ z; cases z)
theorem paS {v i : Expr} {p : Pos} (ha : PE X (.Subscript v i p) te) (hr : PA X es t) : PA X (.Subscript v i p :: es) (tCons te t) := pa_cons ha hr starS
theorem starK {f : Expr} {a : List Expr} {k : List Keyword} {p : Pos} : starEach (.Call f a k p :: es) env = (false, eval (.Call f a k p) env) :: starEach es env := by first | rfl | (rw [starEach]; intro _ _ z; cases z)
theorem paK {f : Expr} {a : List Expr} {k : List Keyword} {p : Pos} (ha : PE X (.Call f a k p) te) (hr : PA X es t) : PA X (.Call f a k p :: es) (tCons te t) := pa_cons ha hr starK
theorem starM {l : Expr} {o : List CmpOp} {c : List Expr} {p : Pos} : starEach (.Compare l o c p :: es) env = (false, eval (.Compare l o c p) env) :: starEach es env := by first | rfl | (rw [starEach]; intro _ _ z; cases z)
theorem paM {l : Expr} {o : List CmpOp} {c : List Expr} {p : Pos} (ha : PE X (.Compare l o c p) te) (hr : PA X es t) : PA X (.Compare l o c p :: es) (tCons te t) := pa_cons ha hr starM
theorem starE {e : Expr} {g : List Comprehension} {s : Scope} {p : Pos} : starEach (.ListComp e g s p :: es) env = (false, eval (.ListComp e g s p) env) :: starEach es env := by first | rfl | (rw [starEach]; intro _ _ z; cases z)
theorem paE {e : Expr} {g : List Comprehension} {s : Scope} {p : Pos} (ha : PE X (.ListComp e g s p) te) (hr : PA X es t) : PA X (.ListComp e g s p :: es) (tCons te t) := pa_cons ha hr starE
end
end L2
namespace L2
open PySem PySem.Spec PyProof.Rows
theorem iteY {c : Bool} {A B : Prop} (h : c = true) (q : A) : if c = true then A else B := by rw [if_pos h]; exact q
theorem iteN {c : Bool} {A B : Prop} (h : c = false) (q : B) : if c = true then A else B := by rw [if_neg (by rw [h]; decide)]; exact q
theorem iteYd {p : Prop} [Decidable p] {A B : Prop} (h : p) (q : A) : if decide p = true then A else B := by rw [if_pos (decide_eq_true h)]; exact q
theorem iteNd {p : Prop} [Decidable p] {A B : Prop} (h : ¬ p) (q : B) : if decide p = true then A else B := by rw [if_neg (by rw [decide_eq_false h]; decide)]; exact q
theorem iteDd {p : Prop} [Decidable p] {A B : Prop} (h1 : p -> A) (h2 : ¬ p -> B) : if decide p = true then A else B := by
  by_cases h : p
  · exact iteYd h (h1 h)
  · exact iteNd h (h2 h)
section
variable {K : PySem.W.Frag}
theorem k_ss : PySem.W.kitOne K (.type "str") (.type "str") = some true := by with_unfolding_all rfl
theorem k_ts : PySem.W.kitOne K (.type "tuple") (.type "str") = some false := by with_unfolding_all rfl
theorem k_is' : PySem.W.kitOne K (.type "int") (.type "str") = some false := by with_unfolding_all rfl
theorem k_tt : PySem.W.kitOne K (.type "tuple") (.type "tuple") = some true := by with_unfolding_all rfl
theorem k_it : PySem.W.kitOne K (.type "int") (.type "tuple") = some false := by with_unfolding_all rfl
theorem k_ii : PySem.W.kitOne K (.type "int") (.type "int") = some true := by with_unfolding_all rfl
theorem k_ib : PySem.W.kitOne K (.type "int") (.type "bool") = some false := by with_unfolding_all rfl
theorem isd_int {H : Hp} (n : Int) : Isd K H (.fl (.int n)) (.int n) := by unfold Isd; exact ⟨rfl, rfl⟩
theorem isd_str {H : Hp} (n : Str) : Isd K H (.fl (.str n)) (.str n) := by unfold Isd; exact ⟨rfl, rfl⟩
theorem isds_nil {H : Hp} : Isds K H [] [] := by unfold Isds; rfl
theorem isds_cons {H : Hp} {d : Da} {ds : List Da} {v : V} {vs : List V} (h : Isd K H d v) (t : Isds K H ds vs) : Isds K H (d :: ds) (v :: vs) := by unfold Isds; exact ⟨_, _, rfl, h, t⟩
theorem isds_strs {H : Hp} : ∀ ns : List Str, Isds K H (ns.map fun n => Da.fl (.str n)) (ns.map V.str)
  | [] => isds_nil
  | n :: ns => isds_cons (isd_str n) (isds_strs ns)
end
theorem dep_strs : ∀ ns : List Str, depDs (ns.map fun n => Da.fl (.str n)) = 0
  | [] => by unfold depDs; rfl
  | n :: ns => by
    rw [List.map_cons]
    unfold depDs
    rw [dep_strs ns]
    unfold depD
    rfl
theorem fits2 {n : Nat} (h : n <= 100000) : n <= sizeLine := Nat.le_trans h (by decide)
theorem fitsL {n : Nat} (h : n <= 100000) : n < sizeLine := Nat.lt_of_le_of_lt h (by decide)
theorem same_upd {H H' : Hp} {D : Addr} {o : HO} (hn : H D = none) (s : Same H H') : Same H (upd H' D o) := fun b u q => by rw [upd_ne (ne_of_none q hn)]; exact s b u q
end L2
namespace L2
open PySem PySem.Spec PyProof.Rows
section
variable {X : Cx}
theorem ints_items {its : List Value} {ns : List Int} (hi : IntsAre its ns) : ∃ xs : Array (Int × Tok), its.toArray = intItems xs /\ ns = xs.toList.map (·.1) := by
  obtain ⟨xs, e⟩ := hi.allInts.items
  exact ⟨xs, e, by rw [<- hi.numsOf, <- nums_intItems, <- e]⟩
theorem call_sum (hc : X.calm = true) : CallR X (.builtin "sum") (fun xs H Q => ∃ (p : Addr) (ns : List Int), xs = [.ref p] /\ SqL X.K H p (ns.map V.int) /\ Q (.int ns.sum) H) := by
  intro pins s σ H xs us Q I r h
  obtain ⟨p, ns, rfl, hq, q⟩ := h
  obtain ⟨u, rfl, ru⟩ := vals1 r
  cases ru
  obtain ⟨its, rv, pl, _⟩ := I.list hq
  obtain ⟨xs, e, hns⟩ := ints_items (intsAre_of rv)
  have hl := pl.isList
  rw [e] at hl
  refine sum_intListG (I.ok.hd hc) hl fun h' tk t' hk => ⟨.int _, H, I.kept hk, ⟨t', rfl⟩, ?_⟩
  rw [preSum_eq, List.take_of_length_le (by simp), <- hns]
  exact q
end
def BestTo (xs : Array (Int × Tok)) (j : Nat) (b : Int) : Prop := (∃ i, i <= j /\ numAt xs i = b) /\ ∀ i, i <= j -> numAt xs i <= b
section
variable {prog : Program} {w : World} {A : Around} {R : Result -> Shared -> Prop} {I S l : Addr} {d : Value} {xs : Array (Int × Tok)}
def bestObj (vs : Array Value) (c : Nat) : Obj := { cls := .type "list", dict := none, data := .seq vs c, slots := #[] }
theorem mxd_name : (toString "max" ++ toString ".loop" : String) = "max.loop" := by decide
theorem mxd_loop (hh : A.handled = none) (hlI : l ≠ I) (hSI : S ≠ I) (hSl : S ≠ l) :
    ∀ (k j : Nat) (s : Shared) (b : Int) (tb : Tok) (c : Nat), xs.size = j + 1 + k -> s.heap.IsListIter I l (j + 1) /\ s.heap.IsList l (intItems xs) -> BestTo xs j b ->
      s.heap.get? S = some (bestObj #[.int b tb, .int b tb] c) ->
      (∀ M t h' tk, BestTo xs (xs.size - 1) M -> (∀ a o, a ≠ I -> a ≠ S -> s.heap.get? a = some o -> h'.get? a = some o) -> R (.ok (.ret (.int M t))) { s with heap := h', toks := tk }) ->
      codeAny (model prog w) A (.builtin "max.loop" ⟨[.ref I, .none, .ref S], [(Str.ofString "default", d)]⟩) R s := by
  have W := Walks.list (prog := prog) (w := w) (A := A.in1) hh I l hlI (intItems xs)
  have hz : (intItems xs).size = xs.size := by simp [intItems]
  intro k
  induction k with
  | zero =>
    intro j s b tb c hk st hb hS hR
    refine codeAny_builtin F.entry_max_loop ?_
    rw [Around.under_plainId F.plain_max_loop _]
    show wpAny _ A.in1 (seqItems? (.ref S) >>= _) _ _ s
    refine wpAny_bind (wpAny_seqItems hS rfl ?_)
    show wpAny _ A.in1 (tryCatch (pyNext (.ref I)) _ >>= _) _ _ s
    have e0 : j + 1 = (intItems xs).size := by omega
    refine wpAny_bind (wpAny_tryCatch (W.done s _ _ (e0 ▸ st) fun h' tk hk' => ?_))
    have hS' := hk' S _ (by simpa using hSI) hS
    show wpAny _ A.in1 (updateSeq S (fun _ => #[]) >>= _) _ _ _
    refine wpAny_bind ?_
    refine wpAny_updateSeq hS' rfl (wpAny_bind (wpAny_letGo (wpAny_pure ?_)))
    refine hR b tb _ tk (by have : xs.size - 1 = j := by omega
                            rw [this]; exact hb) fun a o ha haS e => (Heap.get?_update_other _ _ (Ne.symm haS)).trans (hk' a o (by simpa using ha) e)
  | succ k ih =>
    intro j s b tb c hk st hb hS hR
    refine codeAny_builtin F.entry_max_loop ?_
    rw [Around.under_plainId F.plain_max_loop _]
    show wpAny _ A.in1 (seqItems? (.ref S) >>= _) _ _ s
    refine wpAny_bind (wpAny_seqItems hS rfl ?_)
    show wpAny _ A.in1 (tryCatch (pyNext (.ref I)) _ >>= _) _ _ s
    refine wpAny_bind (wpAny_tryCatch (W.item (j + 1) s _ _ (by omega) st fun v h' tk hP st' hk' => ?_))
    have hS' := hk' S _ (by simpa using hSI) hS
    obtain ⟨tv, rfl⟩ := intItems_at hP
    show wpAny _ A.in1 (tryCatch (holding [_, _] (richCompare .Gt (.int (numAt xs (j + 1)) tv) (.int b tb) >>= _)) _ >>= _) _ _ _
    have cmp := CmpOf.ints_gt (prog := prog) (w := w) (A := A.in1) (P := fun i v => ∃ t, v = .int (if i = 0 then numAt xs (j + 1) else b) t) (fun i => if i = 0 then numAt xs (j + 1) else b) (fun _ _ h => h)
    refine wpAny_bind (wpAny_tryCatch (wpAny_holding (wpAny_bind (cmp 0 1 _ _ _ _ _ ⟨tv, by simp⟩ ⟨tb, by simp⟩ ?_))))
    refine wpAny_bind (wpAny_holding (wpAny_truthy_bool ?_))
    refine wpAny_bind (wpAny_letGo (wpAny_pure ?_))
    have st2 : ∀ h2 : Heap, (∀ a o, a ≠ S -> h'.get? a = some o -> h2.get? a = some o) -> h2.IsListIter I l (j + 1 + 1) /\ h2.IsList l (intItems xs) := fun h2 e => W.frame _ _ _ st' fun a ha o q => e a o (by
      rintro rfl
      simp at ha
      rcases ha with ha | ha
      · exact hSI ha
      · exact hSl ha) q
    by_cases hlt : numAt xs (j + 1) > b
    · have hd : decide ((if (0 : Nat) = 0 then numAt xs (j + 1) else b) > (if (1 : Nat) = 0 then numAt xs (j + 1) else b)) = true := by simpa using hlt
      show wpAny _ A.in1 (if decide ((if (0 : Nat) = 0 then numAt xs (j + 1) else b) > (if (1 : Nat) = 0 then numAt xs (j + 1) else b)) = true then _ else _) _ _ _
      rw [hd]
      simp only [if_true]
      refine wpAny_bind ?_
      refine wpAny_updateSeq hS' rfl (wpAny_bind (wpAny_letGo ?_))
      rw [mxd_name]
      refine wpAny_pure ⟨plainId_quiet F.plain_max_loop _, ih (j + 1) _ (numAt xs (j + 1)) tv _ (by omega) (st2 _ fun a o ha q => (Heap.get?_update_other _ _ (Ne.symm ha)).trans q) ⟨⟨j + 1, Nat.le_refl _, rfl⟩, fun i hi => ?_⟩ (Heap.get?_update_self _ hS' rfl) fun M t h2 tk2 hM hk2 => ?_⟩
      · by_cases e : i = j + 1
        · subst e; exact Int.le_refl _
        · have := hb.2 i (by omega); omega
      · exact hR M t h2 tk2 hM fun a o ha haS q => hk2 a o ha haS ((Heap.get?_update_other _ _ (Ne.symm haS)).trans (hk' a o (by simpa using ha) q))
    · have hd : decide ((if (0 : Nat) = 0 then numAt xs (j + 1) else b) > (if (1 : Nat) = 0 then numAt xs (j + 1) else b)) = false := by simpa using hlt
      show wpAny _ A.in1 (if decide ((if (0 : Nat) = 0 then numAt xs (j + 1) else b) > (if (1 : Nat) = 0 then numAt xs (j + 1) else b)) = true then _ else _) _ _ _
      rw [hd]
      simp only [Bool.false_eq_true, if_false]
      refine wpAny_bind (wpAny_letGo ?_)
      rw [mxd_name]
      refine wpAny_pure ⟨plainId_quiet F.plain_max_loop _, ih (j + 1) _ b tb c (by omega) st' ⟨?_, fun i hi => ?_⟩ hS' fun M t h2 tk2 hM hk2 => ?_⟩
      · obtain ⟨i, hi, e⟩ := hb.1
        exact ⟨i, by omega, e⟩
      · by_cases e : i = j + 1
        · subst e; omega
        · exact hb.2 i (by omega)
      · exact hR M t h2 tk2 hM fun a o ha haS q => hk2 a o ha haS (hk' a o (by simpa using ha) q)
theorem args_maxD (a v : Value) : argsOk "max" ⟨[a], [(Str.ofString "default", v)]⟩ := by unfold argsOk; kernel_rfl
theorem max_dflt {E : Value -> Shared -> Prop} {s : Shared} {Q : Value -> Shared -> Prop} (hh : A.handled = none) (hl : s.heap.IsList l (intItems xs))
    (h0 : xs.size = 0 -> ∀ h' tk, (∀ a o, s.heap.get? a = some o -> h'.get? a = some o) -> Q d { s with heap := h', toks := tk })
    (h1 : ∀ M t h' tk, xs.size ≠ 0 -> BestTo xs (xs.size - 1) M -> (∀ a o, s.heap.get? a = some o -> h'.get? a = some o) -> Q (.int M t) { s with heap := h', toks := tk }) :
    wpAny (model prog w) A (call (.builtin "max") [.ref l] [(Str.ofString "default", d)]) Q E s := by
  have hz : (intItems xs).size = xs.size := by simp [intItems]
  refine kmk_tree F.kind_max F.plain_max F.entry_max (args_maxD _ _) ?_
  show wpAny _ A.in1 (Builtin.Builtins.bindParams "max" ["key", "default"] 0 ⟨[], [(Str.ofString "default", d)]⟩ >>= _) _ _ s
  refine wpAny_bind (wpAny_of_eq (show Builtin.Builtins.bindParams "max" ["key", "default"] 0 ⟨[], [(Str.ofString "default", d)]⟩ = pure [none, some d] from rfl) ?_)
  refine wpAny_bind (wpAny_pure ?_)
  refine wpAny_bind (iter_intList hl fun s₂ e st hfp hlI => ?_)
  refine wpAny_bind (wpAny_newObj_type ?_)
  rw [mxd_name]
  generalize hSs : s₂.heap.objs.size = S
  have gone : ∀ a o, s.heap.get? a = some o -> a ≠ s.heap.objs.size /\ a ≠ S /\ s₂.heap.get? a = some o := fun a o q => by
    have l1 := Heap.lt_size q
    refine ⟨Nat.ne_of_lt l1, ?_, ?_⟩
    · rw [<- hSs]
      exact Nat.ne_of_lt (Nat.lt_trans l1 (hfp _ (by simp)))
    · rw [e]
      exact Heap.get?_push_of_some _ q
  have hSI : S ≠ s.heap.objs.size := by
    rw [<- hSs]
    exact Nat.ne_of_gt (hfp _ (by simp))
  have hSl : S ≠ l := by
    rw [<- hSs]
    exact Nat.ne_of_gt (hfp _ (by simp))
  have W := Walks.list (prog := prog) (w := w) (A := A.in1) hh s.heap.objs.size l hlI (intItems xs)
  refine wpAny_pure ⟨plainId_quiet F.plain_max_loop _, ?_⟩
  have gS : (s₂.heap.push { cls := .type "list", dict := none, data := .seq ([] : List Value).toArray }).get? S = some (bestObj #[] 0) := by
    rw [<- hSs]
    exact Heap.get?_push_size _ rfl
  have st1 : (s₂.heap.push { cls := .type "list", dict := none, data := .seq ([] : List Value).toArray }).IsListIter s.heap.objs.size l 0 /\ (s₂.heap.push { cls := .type "list", dict := none, data := .seq ([] : List Value).toArray }).IsList l (intItems xs) :=
    W.frame _ _ _ st fun b _ o q => Heap.get?_push_of_some _ q
  refine codeAny_builtin F.entry_max_loop ?_
  rw [Around.under_plainId F.plain_max_loop _]
  show wpAny _ A.in1 (seqItems? (.ref _) >>= _) _ _ _
  refine wpAny_bind (wpAny_seqItems gS rfl ?_)
  show wpAny _ A.in1 (tryCatch (pyNext (.ref s.heap.objs.size)) _ >>= _) _ _ _
  by_cases hn : xs.size = 0
  · refine wpAny_bind (wpAny_tryCatch (W.done _ _ _ (by rw [hz, hn]; exact st1) fun h' tk hk' => ?_))
    refine wpAny_bind (wpAny_rule (wpAny_pure ?_))
    subst e
    exact h0 hn h' tk fun a o q => hk' a o (by simpa using (gone a o q).1) (Heap.get?_push_of_some _ (gone a o q).2.2)
  · refine wpAny_bind (wpAny_tryCatch (W.item 0 _ _ _ (by rw [hz]; omega) st1 fun v h' tk hP st' hk' => ?_))
    obtain ⟨tv, rfl⟩ := intItems_at hP
    have hS' := hk' S _ (by simpa using hSI) gS
    show wpAny _ A.in1 (updateSeq S (fun _ => #[.int (numAt xs 0) tv, .int (numAt xs 0) tv]) >>= _) _ _ _
    refine wpAny_bind ?_
    refine wpAny_updateSeq hS' rfl ?_
    rw [mxd_name]
    refine wpAny_pure ⟨plainId_quiet F.plain_max_loop _, mxd_loop hh hlI hSI hSl (xs.size - 1) 0 _ (numAt xs 0) tv _ (by omega) (W.frame _ _ _ st' fun a ha o q => ?_) ⟨⟨0, Nat.le_refl _, rfl⟩, fun i hi => ?_⟩ (Heap.get?_update_self _ hS' rfl) fun M t h2 tk2 hM hk2 => ?_⟩
    · refine (Heap.get?_update_other _ _ ?_).trans q
      rintro rfl
      simp at ha
      rcases ha with ha | ha
      · exact hSI ha
      · exact hSl ha
    · obtain rfl : i = 0 := by omega
      exact Int.le_refl _
    · subst e
      exact h1 M t h2 tk2 hn hM fun a o q => hk2 a o (gone a o q).1 (gone a o q).2.1 ((Heap.get?_update_other _ _ (Ne.symm (gone a o q).2.1)).trans (hk' a o (by simpa using (gone a o q).1) (Heap.get?_push_of_some _ (gone a o q).2.2)))
end
section
variable {X : Cx}
def tMaxD (K : PySem.W.Frag) (te : TE) (n : Int) : TE := fun σ H Q => te σ H fun x H1 => ∃ (p : Addr) (ns : List Int), x = .ref p /\ SqL K H1 p (ns.map V.int) /\ (ns = [] -> Q (.int n) H1) /\ ∀ M, M ∈ ns -> (∀ a ∈ ns, a <= M) -> Q (.int M) H1
theorem pe_maxD {e : Expr} {te : TE} {n : Int} {j : Nat} {p pos kp cp : Pos} (hc : X.calm = true) (hg : Gl X "max") (hm : X.mg "max" = none) (he : PE X e te) (hst : starEach [e] X.env = [(false, eval e X.env)] := by rfl) :
    PE X (.Call (.Name "max" p) [e] [⟨some "default", .Constant (.int n) j cp, kp⟩] pos) (tMaxD X.K te n) := by
  intro pins s σ H Q I h
  refine wpAny_Call_Name_kw (ld_blt I hg hm PyProof.Rows.boot_max ?_)
  refine callWith_kw ?_ (by rw [hst]; rfl) (by rw [hst]; rfl)
  rw [hst]
  refine Calls.spliced_cons (thn (he pins s σ H _ I h) fun u s1 ⟨x, H1, I1, r1, q1⟩ => Calls.spliced_nil (kws_cons (wpAny_Constant_int (kws_nil ?_))))
  obtain ⟨a, ns, rfl, hq, q0, q1⟩ := q1
  cases r1
  have I2 := I1.tok (s1.toks + 1)
  obtain ⟨its, rv, pl, _⟩ := I2.list hq
  obtain ⟨xs, ex, hns⟩ := ints_items (intsAre_of rv)
  have hl := pl.isList
  rw [ex] at hl
  refine max_dflt (I.ok.hd hc) hl (fun z h' tk hk => ⟨.int n, H1, I2.kept hk, ⟨_, rfl⟩, q0 ?_⟩) fun M t h' tk hn hM hk => ⟨.int M, H1, I2.kept hk, ⟨t, rfl⟩, q1 M ?_ fun a ha => ?_⟩
  · rw [hns]
    have : xs = #[] := Array.size_eq_zero_iff.mp z
    rw [this]
    rfl
  · obtain ⟨i, hi, ei⟩ := hM.1
    rw [<- ei, hns, numAt_eq]
    exact getD_mem (by rw [List.length_map, Array.length_toList]; omega)
  · rw [hns] at ha
    obtain ⟨j, hj, rfl⟩ := mem_getD ha
    rw [List.length_map, Array.length_toList] at hj
    rw [<- numAt_eq]
    exact hM.2 j (by omega)
theorem op_rep_str : OpR X (binaryOp .Mult) (fun x y H Q => ∃ z n, x = .str z /\ y = .int n /\ z.length <= 1000 /\ n <= 1000 /\ -1000 <= n /\ Q (.str (Txt.mul z n)) H) := by
  intro pins s σ H x y v u Q I rx ry h
  obtain ⟨z, n, rfl, rfl, h1, h2, h3, q⟩ := h
  obtain ⟨t, rfl⟩ := rx
  obtain ⟨t', rfl⟩ := ry
  refine SB.mul ⟨?_, fun hn _ => ?_, fun hn _ => ?_⟩ fun t' k => ⟨.str _, H, I.tok k, ⟨t', rfl⟩, q⟩
  · rw [decide_eq_false (by omega), decide_eq_false (by omega)]
    rfl
  · have e : (1000 : Int) <= (2 ^ 63 - 1) / n := Int.le_ediv_of_mul_le (by omega) (by omega)
    omega
  · have hle : z.length * n.toNat <= 1000 * 1000 := Nat.mul_le_mul h1 (by omega)
    unfold PySem.Builtin.Str.tooLong
    simp only [decide_eq_false_iff_not]
    rw [sizeLine_eq]
    omega
noncomputable def eqAny (K : PySem.W.Frag) (H : Hp) (d : Da) (u : Value) : Bool := @decide (∃ e v, RelV v u /\ Isd K H e v /\ eqD e d = true) (Classical.propDecidable _)
theorem any_items {pins : List (Addr × Obj)} {s : Shared} {σ : St} {H : Hp} (I : Inv X pins σ H s) (d : Da) : ∀ {ds : List Da} {xs : List V} {us : List Value}, Isds X.K H ds xs -> Vals xs us ->
    (∀ u ∈ us, ∃ e v, RelV v u /\ Isd X.K H e v /\ e ∈ ds /\ eqAny X.K H d u = eqD e d) /\ us.any (eqAny X.K H d) = ds.any (fun e => eqD e d)
  | [], xs, us, h, r => by
    unfold Isds at h
    subst h
    cases r
    exact ⟨(fun u hu => nomatch hu), rfl⟩
  | e :: ds, xs, us, h, r => by
    unfold Isds at h
    obtain ⟨v, vs, rfl, he, hs⟩ := h
    cases r with
    | cons r1 r2 =>
      rename_i u us'
      obtain ⟨ih1, ih2⟩ := any_items I d hs r2
      have ee : eqAny X.K H d u = eqD e d := by
        unfold eqAny
        cases hb : eqD e d with
        | true => exact @decide_eq_true _ (Classical.propDecidable _) ⟨e, v, r1, he, hb⟩
        | false =>
          refine @decide_eq_false _ (Classical.propDecidable _) ?_
          rintro ⟨e', v', r', he', hb'⟩
          have : v' = v := r'.inj r1
          subst this
          have : e' = e := Isd.inj I e' e he' he
          subst this
          rw [hb] at hb'
          cases hb'
      refine ⟨fun u' hu => ?_, by rw [List.any_cons, List.any_cons, ee, ih2]⟩
      rcases List.mem_cons.mp hu with rfl | hu
      · exact ⟨e, v, r1, he, List.mem_cons_self, ee⟩
      · obtain ⟨e', v', a, b, c, q⟩ := ih1 u' hu
        exact ⟨e', v', a, b, List.mem_cons_of_mem _ c, q⟩
theorem dep_mem {ds : List Da} {e : Da} (h : e ∈ ds) : depD e <= depDs ds := by
  obtain ⟨i, hi, rfl⟩ := List.mem_iff_getElem.mp h
  exact depD_mem (j := i) (List.getElem?_eq_getElem hi)
def rInD (K : PySem.W.Frag) (f : Bool -> Bool) : R2 := fun x y H Q => ∃ p xs d ds, y = .ref p /\ SqL K H p xs /\ Isd K H d x /\ Isds K H ds xs /\ depDs ds <= 50 /\ Q (.bl (f (ds.any fun e => eqD e d))) H
theorem op_notInD (hu : X.A.units + 64 < cLine) : OpR X (compareOp .NotIn) (rInD X.K not) := by
  intro pins s σ H x y v u Q I rx ry h
  obtain ⟨p, xs, d, ds, rfl, hq, hd, hs, hz, q⟩ := h
  cases ry
  obtain ⟨us, r1, p1, _⟩ := I.list hq
  obtain ⟨a1, a2⟩ := any_items I d hs r1
  refine SeqAt.notIn_listAt (eqAny X.K H d) p1.isList (fun w hw => ?_) ⟨.bl _, H, I, ?_, q⟩
  · obtain ⟨e, z, r, he, hm, ee⟩ := a1 w (by simpa using hw)
    rw [ee]
    exact eqAt_D I 50 e d (Nat.le_trans (dep_mem hm) hz) he hd r rx (by show X.A.units + 1 + 50 < cLine; omega)
  · show Value.bool _ = _
    rw [<- a2]
    simp
end
end L2
namespace L2
open PySem PySem.Spec PyProof.Rows
section
variable {X : Cx} {K : PySem.W.Frag}
theorem ix_tupC (h : X.K = K) : IxR X (rIxT K) := h ▸ ix_tup
theorem ix_listC (h : X.K = K) : IxR X (rIxL K) := h ▸ ix_list
end
theorem take_snoc {α : Type} {xs : List α} {i : Nat} {x : α} (h : xs[i]? = some x) : xs.take (i + 1) = xs.take i ++ [x] := by
  rw [List.take_add_one, h]
  rfl
theorem lt_of_some {α : Type} {xs : List α} {i : Nat} {x : α} (h : xs[i]? = some x) : i < xs.length := (List.getElem?_eq_some_iff.mp h).1
theorem some_of_lt {α : Type} {xs : List α} {i : Nat} (h : i < xs.length) : ∃ x, xs[i]? = some x := ⟨_, List.getElem?_eq_getElem h⟩
section
variable {K : PySem.W.Frag} {a : Addr} {xs ys : List V} {js : List Nat} {tc : TT} {te : TE} {σ : St} {Q : VK} {D : Addr} {H1 : Hp}
theorem comp_tupM (hz : xs.length < sizeLine) (hlen : ys.length = xs.length) (ha : SqT K H1 a xs) (hD : H1 D = none)
    (he : ∀ (i : Nat) (x y : V) (H : Hp), xs[i]? = some x -> ys[i]? = some y -> Same H1 H -> ∀ Q' : VK, (∀ H', Same H H' -> Q' y H') -> te (some x :: compS js σ) H Q')
    (hq : ∀ H', Same H1 H' -> H' D = some (.lst ys) -> Q (.ref D) H') : CompW (Itt K a) js tYes te σ Q D H1 := by
  refine comp_tpl (K := K) (a := a) (xs := xs) (fun i acc H => i <= xs.length /\ acc = ys.take i /\ Same H1 H /\ H D = some (.lst acc)) hz ⟨Nat.zero_le _, rfl, same_new hD _, upd_same⟩ (fun i acc H ⟨l, e, s, d⟩ => ⟨d, ?_, Same.tupS s ha⟩) ?_ ?_
  · rw [e, List.length_take]
    omega
  · rintro i m x acc H hi ⟨l, e, s, d⟩ hm
    have hlt := lt_of_some hi
    obtain ⟨y, hy⟩ := some_of_lt (xs := ys) (i := i) (by omega)
    exact he i x y H hi hy s _ fun H' s' => cstep hlt hm (s' _ _ d) ⟨hlt, by rw [e, take_snoc hy], same_upd hD (s.trans s'), upd_same⟩
  · rintro acc H ⟨l, e, s, d⟩
    rw [List.take_of_length_le (by omega)] at e
    exact hq H s (by rw [d, e])
theorem comp_lstM (hz : xs.length < sizeLine) (hlen : ys.length = xs.length) (ha : SqL K H1 a xs) (hD : H1 D = none)
    (he : ∀ (i : Nat) (x y : V) (H : Hp), xs[i]? = some x -> ys[i]? = some y -> Same H1 H -> ∀ Q' : VK, (∀ H', Same H H' -> Q' y H') -> te (some x :: compS js σ) H Q')
    (hq : ∀ H', Same H1 H' -> H' D = some (.lst ys) -> Q (.ref D) H') : CompW (Itl K a) js tYes te σ Q D H1 := by
  refine comp_lst (K := K) (a := a) (xs := xs) (fun i acc H => i <= xs.length /\ acc = ys.take i /\ Same H1 H /\ H D = some (.lst acc)) hz ⟨Nat.zero_le _, rfl, same_new hD _, upd_same⟩ (fun i acc H ⟨l, e, s, d⟩ => ⟨d, ?_, Same.seq s ha⟩) ?_ ?_
  · rw [e, List.length_take]
    omega
  · rintro i m x acc H hi ⟨l, e, s, d⟩ hm
    have hlt := lt_of_some hi
    obtain ⟨y, hy⟩ := some_of_lt (xs := ys) (i := i) (by omega)
    exact he i x y H hi hy s _ fun H' s' => cstep hlt hm (s' _ _ d) ⟨hlt, by rw [e, take_snoc hy], same_upd hD (s.trans s'), upd_same⟩
  · rintro acc H ⟨l, e, s, d⟩
    rw [List.take_of_length_le (by omega)] at e
    exact hq H s (by rw [d, e])
end
theorem cut_take {xs : List V} {k : Nat} (h : k <= xs.length) : cutV xs none (some (k : Int)) = xs.take k := by
  unfold cutV
  rw [HT.sIx_none, HT.sIx_nat, Nat.min_eq_left h]
  simp
theorem cut_drop {xs : List V} {k : Nat} (h : k <= xs.length) : cutV xs (some (k : Int)) none = xs.drop k := by
  unfold cutV
  rw [HT.sIx_none, HT.sIx_nat, Nat.min_eq_left h]
  rw [List.take_of_length_le (by rw [List.length_drop]; omega)]
theorem cut_take' (xs : List V) (k : Nat) : cutV xs none (some (k : Int)) = xs.take k := by
  by_cases h : k <= xs.length
  · exact cut_take h
  · unfold cutV
    rw [HT.sIx_none, HT.sIx_nat, Nat.min_eq_right (by omega), List.drop_zero, Nat.sub_zero, List.take_of_length_le (Nat.le_refl _), List.take_of_length_le (by omega)]
theorem cut_drop' (xs : List V) (k : Nat) : cutV xs (some (k : Int)) none = xs.drop k := by
  by_cases h : k <= xs.length
  · exact cut_drop h
  · unfold cutV
    rw [HT.sIx_none, HT.sIx_nat, Nat.min_eq_right (by omega), List.drop_of_length_le (Nat.le_refl _), List.drop_of_length_le (by omega)]
    exact List.take_nil
theorem atI_head {α : Type} (x : α) (r : List α) : atI (x :: r) 0 = some x := atI_nat (j := 0) rfl
end L2
namespace L2
open PySem PySem.Spec PyProof.Rows
structure QE (X : Cx) (e : Expr) (t : TE) : Prop where
  h : PE X e t
structure QA (X : Cx) (es : List Expr) (t : TA) : Prop where
  h : PA X es t
structure QS (X : Cx) (st : Stmt) (t : TS) : Prop where
  h : PS X st t
structure QSs (X : Cx) (b : List Stmt) (t : TS) : Prop where
  h : PSs X b t
structure QT (X : Cx) (e : Expr) (t : TT) : Prop where
  h : PT X e t
structure QW (X : Cx) (e : Expr) (t : TT) : Prop where
  h : PW X e t
structure QI (X : Cx) (tg iter : Expr) (t : TI) : Prop where
  h : PI X tg iter t
structure QG (X : Cx) (tg : Expr) (t : TG) : Prop where
  h : PG X tg t
structure QGs (X : Cx) (ts : List Expr) (t : TGs) : Prop where
  h : PGs X ts t
structure QO (X : Cx) (e : Option Expr) (t : TO) : Prop where
  h : PO X e t
structure QIf (X : Cx) (ifs : List Expr) (t : TT) : Prop where
  h : PIf X ifs t
theorem qss_cons {X : L2.Cx} {st : PySem.Stmt} {rest : List PySem.Stmt} {t : L2.TS} {u : L2.TS} (h1 : QS X st t) (h2 : QSs X rest u) : QSs X (st :: rest) (L2.tSeq t u) := ⟨@L2.pss_cons _ _ _ _ _ h1.h h2.h⟩
theorem qss_one {X : L2.Cx} {st : PySem.Stmt} {t : L2.TS} (h1 : QS X st t) : QSs X [st] t := ⟨@L2.pss_one _ _ _ h1.h⟩
theorem qs_set {X : L2.Cx} {pos : PySem.Pos} {i : Nat} {x : PySem.Str} {e : PySem.Expr} {te : L2.TE} {pos' : PySem.Pos} (hN : List.Nodup (L2.Cx.N X)) (hi : (L2.Cx.N X)[i]? = Option.some x) (hx : L2.Loc (PySem.Env.scope (L2.Cx.env X)) x) (he : QE X e te) (hs : PySem.swapsWith e (Option.some (PySem.Expr.Name x pos')) (PySem.Pos.line pos) (L2.Cx.env X) = Pure.pure Bool.false := by rfl) (hf : L2.Cx.fn X x = Bool.true \/ List.lookup x (PySem.Scope.names (PySem.Env.scope (L2.Cx.env X))) = Option.some PySem.NameKind.local := by first | exact .inl rfl | exact .inr rfl | assumption) : QS X (PySem.Stmt.Assign [PySem.Expr.Name x pos'] e pos) (L2.tAsg te (L2.gName i)) := ⟨@L2.ps_set _ _ _ _ _ _ _ hN hi hx he.h hs hf⟩
theorem qs_asg {X : L2.Cx} {pos : PySem.Pos} {tg : PySem.Expr} {e : PySem.Expr} {te : L2.TE} {g : L2.TG} (he : QE X e te) (hg : QG X tg g) (hs : PySem.swapsWithSole [tg] e (PySem.Pos.line pos) (L2.Cx.env X) = Pure.pure Bool.false := by rfl) (hw : PySem.swappedStores [tg] e (L2.Cx.env X) = Pure.pure Option.none := by rfl) (h1 : List.map (fun (x : Bool × (PySem.Value -> PySem.Sem Unit)) => Prod.snd x) (PySem.assignEach [tg] (L2.Cx.env X)) = [PySem.assign tg (L2.Cx.env X)] := by rfl) : QS X (PySem.Stmt.Assign [tg] e pos) (L2.tAsg te g) := ⟨@L2.ps_asg _ _ _ _ _ _ he.h hg.h hs hw h1⟩
theorem qs_expr {X : L2.Cx} {e : PySem.Expr} {te : L2.TE} {pos : PySem.Pos} (he : QE X e te) (hs : PySem.swapsWith e Option.none (PySem.Pos.line pos) (L2.Cx.env X) = Pure.pure Bool.false := by rfl) : QS X (PySem.Stmt.Expr e pos) (L2.tDrop te) := ⟨@L2.ps_expr _ _ _ _ he.h hs⟩
theorem qs_ret {X : L2.Cx} {e : PySem.Expr} {te : L2.TE} {pos : PySem.Pos} (he : QE X e te) : QS X (PySem.Stmt.Return (Option.some e) pos) (L2.tRet te) := ⟨@L2.ps_ret _ _ _ _ he.h⟩
theorem qs_if {X : L2.Cx} {t : L2.TS} {u : L2.TS} {pos : PySem.Pos} {c : PySem.Expr} {a : List PySem.Stmt} {b : List PySem.Stmt} {tc : L2.TT} (hc : QT X c tc) (ha : QSs X a t) (hb : QSs X b u) : QS X (PySem.Stmt.If c a b pos) (L2.tIfS tc t u) := ⟨@L2.ps_if _ _ _ _ _ _ _ _ hc.h ha.h hb.h⟩
theorem qs_for {X : L2.Cx} {tg : PySem.Expr} {iter : PySem.Expr} {body : List PySem.Stmt} {wi : L2.TI} {g : L2.TG} {tb : L2.TS} {pos : PySem.Pos} (hp : PySem.PassesOwn (PySem.model (L2.Cx.prog X) (L2.Cx.w X)) (L2.Cx.A X) (L2.Cx.env X) (L2.Cx.xe X)) (hc : L2.Cx.calm X = Bool.true) (hi : QI X tg iter wi) (hg : QG X tg g) (hb : QSs X body tb) (hs : ∀ (x : PySem.Value), PySem.foldedSetIterable iter (L2.Cx.env X) x = Pure.pure x := by intro _; rfl) : QS X (PySem.Stmt.For tg iter body [] pos) (L2.tFor wi g tb) := ⟨@L2.ps_for _ _ _ _ _ _ _ _ hp hc hi.h hg.h hb.h hs⟩
theorem qs_while {X : L2.Cx} {pos : PySem.Pos} {c : PySem.Expr} {body : List PySem.Stmt} {tc : L2.TT} {tb : L2.TS} (hp : PySem.PassesOwn (PySem.model (L2.Cx.prog X) (L2.Cx.w X)) (L2.Cx.A X) (L2.Cx.env X) (L2.Cx.xe X)) (hc : QT X c tc) (hb : QSs X body tb) : QS X (PySem.Stmt.While c body [] pos) (L2.tWhile tc tb) := ⟨@L2.ps_while _ _ _ _ _ _ hp hc.h hb.h⟩
theorem qe_op {X : L2.Cx} {a : PySem.Expr} {b : PySem.Expr} {ta : L2.TE} {tb : L2.TE} {pos : PySem.Pos} {op : PySem.Operator} {r : L2.R2} (ho : L2.OpR X (PySem.binaryOp op) r) (ha : QE X a ta) (hb : QE X b tb) : QE X (PySem.Expr.BinOp a op b pos) (L2.tOp r ta tb) := ⟨@L2.pe_op _ _ _ _ _ _ _ _ ho ha.h hb.h⟩
theorem qe_not {X : L2.Cx} {a : PySem.Expr} {ta : L2.TE} {pos : PySem.Pos} (ha : QE X a ta) : QE X (PySem.Expr.UnaryOp PySem.UnaryOp.Not a pos) (L2.tNotV ta) := ⟨@L2.pe_not _ _ _ _ ha.h⟩
theorem qe_one {X : L2.Cx} {a : PySem.Expr} {pos : PySem.Pos} {op : PySem.BoolOp} {t : L2.TE} (h : QE X a t) : QE X (PySem.Expr.BoolOp op [a] pos) t := ⟨@L2.pe_one _ _ _ _ _ h.h⟩
theorem qe_and {X : L2.Cx} {a : PySem.Expr} {b : PySem.Expr} {ta : L2.TE} {tb : L2.TE} {pos : PySem.Pos} {rest : List PySem.Expr} (ha : QE X a ta) (hb : QE X (PySem.Expr.BoolOp PySem.BoolOp.And (b :: rest) pos) tb) : QE X (PySem.Expr.BoolOp PySem.BoolOp.And (a :: b :: rest) pos) (L2.tAndV ta tb) := ⟨@L2.pe_and _ _ _ _ _ _ _ ha.h hb.h⟩
theorem qe_cmpR {X : L2.Cx} {a : PySem.Expr} {b : PySem.Expr} {ta : L2.TE} {tb : L2.TE} {pos : PySem.Pos} {op : PySem.CmpOp} {r : L2.R2} (ho : L2.OpR X (PySem.compareOp op) r) (ha : QE X a ta) (hb : QE X b tb) (hm : PySem.behindInMarks op b = Bool.false) : QE X (PySem.Expr.Compare a [op] [b] pos) (L2.tOp r ta tb) := ⟨@L2.pe_cmpR _ _ _ _ _ _ _ _ ho ha.h hb.h hm⟩
theorem qe_ifExp {X : L2.Cx} {a : PySem.Expr} {b : PySem.Expr} {ta : L2.TE} {tb : L2.TE} {pos : PySem.Pos} {tA : L2.TT} {c : PySem.Expr} (hc : QT X c tA) (ha : QE X a ta) (hb : QE X b tb) : QE X (PySem.Expr.IfExp c a b pos) (L2.tIf tA ta tb) := ⟨@L2.pe_ifExp _ _ _ _ _ _ _ _ hc.h ha.h hb.h⟩
theorem qe_lst {X : L2.Cx} {es : List PySem.Expr} {t : L2.TA} {pos : PySem.Pos} (h : QA X es t) : QE X (PySem.Expr.List es pos) (L2.tLst t) := ⟨@L2.pe_lst _ _ _ _ h.h⟩
theorem qe_tup {X : L2.Cx} {es : List PySem.Expr} {t : L2.TA} {pos : PySem.Pos} {x1 : Nat} (h : QA X es t) : QE X (PySem.Expr.Tuple es x1 pos) (L2.tTup t) := ⟨@L2.pe_tup _ _ _ _ _ h.h⟩
theorem qe_slice {X : L2.Cx} {e : PySem.Expr} {te : L2.TE} {lo : Option PySem.Expr} {hi : Option PySem.Expr} {tl : L2.TO} {th : L2.TO} {pos : PySem.Pos} {p2 : PySem.Pos} {r : L2.V -> Option Int -> Option Int -> L2.Hp -> L2.VK -> Prop} (hr : L2.SlR X r) (he : QE X e te) (hl : QO X lo tl) (hu : QO X hi th) : QE X (PySem.Expr.Subscript e (PySem.Expr.Slice lo hi Option.none p2) pos) (L2.tSl r te tl th) := ⟨@L2.pe_slice _ _ _ _ _ _ _ _ _ _ hr he.h hl.h hu.h⟩
theorem qe_ix {X : L2.Cx} {a : PySem.Expr} {b : PySem.Expr} {ta : L2.TE} {tb : L2.TE} {pos : PySem.Pos} {r : L2.R2} (hr : L2.IxR X r) (ha : QE X a ta) (hb : QE X b tb) (hs : L2.PlainIx b) : QE X (PySem.Expr.Subscript a b pos) (L2.tOp r ta tb) := ⟨@L2.pe_ix _ _ _ _ _ _ _ hr ha.h hb.h hs⟩
theorem qe_comp {X : L2.Cx} {elt : PySem.Expr} {iter : PySem.Expr} {ifs : List PySem.Expr} {sc : PySem.Scope} {pos : PySem.Pos} {px : PySem.Pos} {t : PySem.Str} {ys : List PySem.Str} {js : List Nat} {wi : L2.TI} {tc : L2.TT} {te : L2.TE} (hc : L2.Cx.calm X = Bool.true) (hck : L2.compChk (L2.Cx.N X) (PySem.Env.scope (L2.Cx.env X)) sc t ys js = Bool.true) (hi : QI X (PySem.Expr.Name t px) iter wi) (hf : ∀ (cl : List (PySem.Str × PySem.Addr)) (C : PySem.Addr) (s : PySem.Shared) (H : L2.Hp) (fp : List PySem.Addr), QIf (L2.Cx.comp X sc cl C (t :: ys) s H fp) ifs tc) (he : ∀ (cl : List (PySem.Str × PySem.Addr)) (C : PySem.Addr) (s : PySem.Shared) (H : L2.Hp) (fp : List PySem.Addr), QE (L2.Cx.comp X sc cl C (t :: ys) s H fp) elt te) (hs : ∀ (x : PySem.Value), PySem.foldedSetIterable iter (L2.Cx.env X) x = Pure.pure x := by intro _; rfl) : QE X (PySem.Expr.ListComp elt [{ target := PySem.Expr.Name t px, iter := iter, ifs := ifs, is_async := 0 }] sc pos) (L2.tComp wi js tc te) := ⟨@L2.pe_comp _ _ _ _ _ _ _ _ _ _ _ _ _ hc hck hi.h (fun cl C s H fp => (hf cl C s H fp).h) (fun cl C s H fp => (he cl C s H fp).h) hs⟩
theorem qe_call {X : L2.Cx} {CX : L2.CXT} {k : Nat} {f : PySem.Addr} {fd : PySem.FuncData} {ps : List PySem.Str} {sp : L2.Sp} {dvs : List L2.V} {ds : List PySem.Value} {E : L2.XK} {x : PySem.Str} {p : PySem.Pos} {pos : PySem.Pos} {e : PySem.Expr} {es : List PySem.Expr} {t : L2.TA} (F : L2.FnOk (L2.Cx.prog X) (L2.Cx.w X) (L2.Cx.K X) (L2.Cx.mg X) (L2.Cx.base X) CX k f fd ps sp) (hr : L2.Room k (L2.Cx.A X)) (hg : L2.Gl X x) (hm : L2.Cx.mg X x = Option.some (PySem.Value.ref f)) (hk : PySem.W.keepIn (L2.Cx.K X) (PySem.Value.ref f) = Bool.true) (hb : L2.Binds (L2.Cx.K X) fd ps ds) (hd : L2.Vals dvs ds) (hx : L2.Passes CX X E) (ha : QA X (e :: es) t) (hdb : (x == PySem.Str.ofString "__debug__") = Bool.false := by decide) (he : PySem.starEach (e :: es) (L2.Cx.env X) = (Bool.false, PySem.eval e (L2.Cx.env X)) :: PySem.starEach es (L2.Cx.env X) := by rfl) (hpl : (List.any (PySem.backTo pos (PySem.starEach es (L2.Cx.env X))) fun (x : Bool × PySem.Sem PySem.Value) => Prod.fst x) = Bool.false := by rfl) : QE X (PySem.Expr.Call (PySem.Expr.Name x p) (e :: es) [] pos) (L2.tCall sp dvs E t) := ⟨@L2.pe_call _ _ _ _ _ _ _ _ _ _ _ _ _ _ _ _ F hr hg hm hk hb hd hx ha.h hdb he hpl⟩
theorem qe_callB {X : L2.Cx} {x : PySem.Str} {p : PySem.Pos} {pos : PySem.Pos} {e : PySem.Expr} {es : List PySem.Expr} {t : L2.TA} {id : String} {r : List L2.V -> L2.Hp -> L2.VK -> Prop} (hc : L2.CallR X (PySem.Value.builtin id) r) (hg : L2.Gl X x) (hm : L2.Cx.mg X x = Option.none) (hv : PySem.bootBuiltins x = Option.some (PySem.Value.builtin id)) (ha : QA X (e :: es) t) (hn : x ≠ PySem.Str.ofString "__name__" := by decide) (hdb : (x == PySem.Str.ofString "__debug__") = Bool.false := by decide) (he : PySem.starEach (e :: es) (L2.Cx.env X) = (Bool.false, PySem.eval e (L2.Cx.env X)) :: PySem.starEach es (L2.Cx.env X) := by rfl) (hpl : (List.any (PySem.backTo pos (PySem.starEach es (L2.Cx.env X))) fun (x : Bool × PySem.Sem PySem.Value) => Prod.fst x) = Bool.false := by rfl) : QE X (PySem.Expr.Call (PySem.Expr.Name x p) (e :: es) [] pos) (L2.tCB r t) := ⟨@L2.pe_callB _ _ _ _ _ _ _ _ _ hc hg hm hv ha.h hn hdb he hpl⟩
theorem qe_callTy {X : L2.Cx} {x : PySem.Str} {p : PySem.Pos} {pos : PySem.Pos} {e : PySem.Expr} {es : List PySem.Expr} {t : L2.TA} {T : String} {r : List L2.V -> L2.Hp -> L2.VK -> Prop} (hc : L2.CallR X (PySem.Value.type T) r) (hg : L2.Gl X x) (hm : L2.Cx.mg X x = Option.none) (hv : PySem.bootBuiltins x = Option.some (PySem.Value.type T)) (ha : QA X (e :: es) t) (hn : x ≠ PySem.Str.ofString "__name__" := by decide) (hdb : (x == PySem.Str.ofString "__debug__") = Bool.false := by decide) (he : PySem.starEach (e :: es) (L2.Cx.env X) = (Bool.false, PySem.eval e (L2.Cx.env X)) :: PySem.starEach es (L2.Cx.env X) := by rfl) (hpl : (List.any (PySem.backTo pos (PySem.starEach es (L2.Cx.env X))) fun (x : Bool × PySem.Sem PySem.Value) => Prod.fst x) = Bool.false := by rfl) : QE X (PySem.Expr.Call (PySem.Expr.Name x p) (e :: es) [] pos) (L2.tCB r t) := ⟨@L2.pe_callTy _ _ _ _ _ _ _ _ _ hc hg hm hv ha.h hn hdb he hpl⟩
theorem qe_bm {X : L2.Cx} {o : PySem.Expr} {e : PySem.Expr} {es : List PySem.Expr} {to : L2.TE} {t : L2.TA} {name : PySem.Str} {apos : PySem.Pos} {cpos : PySem.Pos} {T : String} {id : String} {r : L2.V -> List L2.V -> L2.Hp -> L2.VK -> Prop} (pa : PySem.PlainAttrs T) (slot : PySem.Slot T name id) (hty : PySem.typeOf (PySem.Value.builtin id) = Pure.pure (PySem.Value.type "method_descriptor")) (hm : L2.MtR X id r) (ho : QE X o to) (ha : QA X (e :: es) t) (hbase : PySem.attributeBase o name (L2.Cx.env X) (PySem.eval o (L2.Cx.env X)) = PySem.eval o (L2.Cx.env X) := by rfl) (hfew : (((List.all (PySem.backTo cpos (PySem.starEach (e :: es) (L2.Cx.env X))) fun (x : Bool × PySem.Sem PySem.Value) => !Prod.fst x) && List.all (PySem.backToKw cpos (PySem.keywordEach [] (L2.Cx.env X))) fun (x : Option PySem.Str × PySem.Sem PySem.Value) => Option.isSome (Prod.fst x)) && Decidable.decide ((List.length (e :: es) + List.length ([] : List PySem.Keyword) + if List.isEmpty ([] : List PySem.Keyword) = Bool.true then 0 else 1) < 30)) = Bool.true := by rfl) (hline : (PySem.Pos.endLine apos == PySem.Pos.line cpos) = Bool.true := by rfl) (hs : PySem.starEach (e :: es) (L2.Cx.env X) = (Bool.false, PySem.eval e (L2.Cx.env X)) :: PySem.starEach es (L2.Cx.env X) := by rfl) (hplain : (List.any (PySem.backTo cpos (PySem.starEach es (L2.Cx.env X))) fun (x : Bool × PySem.Sem PySem.Value) => Prod.fst x) = Bool.false := by rfl) : QE X (PySem.Expr.Call (PySem.Expr.Attribute o name apos) (e :: es) [] cpos) (L2.tBM (L2.Cx.K X) T r to t) := ⟨@L2.pe_bm _ _ _ _ _ _ _ _ _ _ _ _ pa slot hty hm ho.h ha.h hbase hfew hline hs hplain⟩
theorem qe_bm0 {X : L2.Cx} {o : PySem.Expr} {to : L2.TE} {name : PySem.Str} {apos : PySem.Pos} {cpos : PySem.Pos} {T : String} {id : String} {r : L2.V -> List L2.V -> L2.Hp -> L2.VK -> Prop} (pa : PySem.PlainAttrs T) (slot : PySem.Slot T name id) (hty : PySem.typeOf (PySem.Value.builtin id) = Pure.pure (PySem.Value.type "method_descriptor")) (hm : L2.MtR X id r) (ho : QE X o to) (hbase : PySem.attributeBase o name (L2.Cx.env X) (PySem.eval o (L2.Cx.env X)) = PySem.eval o (L2.Cx.env X) := by rfl) (hline : (PySem.Pos.endLine apos == PySem.Pos.line cpos) = Bool.true := by rfl) : QE X (PySem.Expr.Call (PySem.Expr.Attribute o name apos) [] [] cpos) (L2.tBM0 (L2.Cx.K X) T r to) := ⟨@L2.pe_bm0 _ _ _ _ _ _ _ _ _ pa slot hty hm ho.h hbase hline⟩
theorem qt_not {X : L2.Cx} {a : PySem.Expr} {pos : PySem.Pos} {tA : L2.TT} (ha : QT X a tA) : QT X (PySem.Expr.UnaryOp PySem.UnaryOp.Not a pos) (L2.tNot tA) := ⟨@L2.pt_not _ _ _ _ ha.h⟩
theorem qt_val {X : L2.Cx} {e : PySem.Expr} {t : L2.TE} (h : QE X e t) (he : ∀ (whole : PySem.Sem PySem.Value), PySem.isTrue e (L2.Cx.env X) whole = (do let v <- whole; PySem.standAt (PySem.Expr.pos e); PySem.holding [v] (PySem.truthy v)) := by intro _; rfl) : QT X e (L2.tB t) := ⟨@L2.pt_val _ _ _ h.h he⟩
theorem qt_cmpR {X : L2.Cx} {a : PySem.Expr} {b : PySem.Expr} {ta : L2.TE} {tb : L2.TE} {pos : PySem.Pos} {op : PySem.CmpOp} {r : L2.R2} (ho : L2.OpR X (PySem.compareOp op) r) (ha : QE X a ta) (hb : QE X b tb) (hm : PySem.behindInMarks op b = Bool.false) : QT X (PySem.Expr.Compare a [op] [b] pos) (L2.tTest (L2.tOp r ta tb)) := ⟨@L2.pt_cmpR _ _ _ _ _ _ _ _ ho ha.h hb.h hm⟩
theorem qt_chain {X : L2.Cx} {a : PySem.Expr} {b : PySem.Expr} {c : PySem.Expr} {ta : L2.TE} {tb : L2.TE} {tc : L2.TE} {pos : PySem.Pos} {op : PySem.CmpOp} {op' : PySem.CmpOp} {r : L2.R2} {r' : L2.R2} (ho : L2.OpR X (PySem.compareOp op) r) (ho' : L2.OpR X (PySem.compareOp op') r') (ha : QE X a ta) (hb : QE X b tb) (hc : QE X c tc) (hm : PySem.lastMarks [op, op'] [b, c] = Bool.false := by with_unfolding_all rfl) : QT X (PySem.Expr.Compare a [op, op'] [b, c] pos) (L2.tTest (L2.tChain r r' ta tb tc)) := ⟨@L2.pt_chain _ _ _ _ _ _ _ _ _ _ _ _ ho ho' ha.h hb.h hc.h hm⟩
theorem qw_and {X : L2.Cx} {a : PySem.Expr} {b : PySem.Expr} {pos : PySem.Pos} {tA : L2.TT} {tB' : L2.TT} {rest : List PySem.Expr} (ha : QT X a tA) (hb : QW X (PySem.Expr.BoolOp PySem.BoolOp.And (b :: rest) pos) tB') : QW X (PySem.Expr.BoolOp PySem.BoolOp.And (a :: b :: rest) pos) (L2.tAnd tA tB') := ⟨@L2.pw_and _ _ _ _ _ _ _ ha.h hb.h⟩
theorem qw_or {X : L2.Cx} {a : PySem.Expr} {b : PySem.Expr} {pos : PySem.Pos} {tA : L2.TT} {tB' : L2.TT} {rest : List PySem.Expr} (ha : QT X a tA) (hb : QW X (PySem.Expr.BoolOp PySem.BoolOp.Or (b :: rest) pos) tB') : QW X (PySem.Expr.BoolOp PySem.BoolOp.Or (a :: b :: rest) pos) (L2.tOr tA tB') := ⟨@L2.pw_or _ _ _ _ _ _ _ ha.h hb.h⟩
theorem qw_and1 {X : L2.Cx} {a : PySem.Expr} {pos : PySem.Pos} {tA : L2.TT} (ha : QT X a tA) : QW X (PySem.Expr.BoolOp PySem.BoolOp.And [a] pos) tA := ⟨@L2.pw_and1 _ _ _ _ ha.h⟩
theorem qw_or1 {X : L2.Cx} {a : PySem.Expr} {pos : PySem.Pos} {tA : L2.TT} (ha : QT X a tA) : QW X (PySem.Expr.BoolOp PySem.BoolOp.Or [a] pos) tA := ⟨@L2.pw_or1 _ _ _ _ ha.h⟩
theorem qw_pt {X : L2.Cx} {e : PySem.Expr} {t : L2.TT} (h : QW X e t) : QT X e t := ⟨@L2.PW.pt _ _ _ h.h⟩
theorem qo_some {X : L2.Cx} {e : PySem.Expr} {te : L2.TE} (h : QE X e te) : QO X (Option.some e) (L2.tPart te) := ⟨@L2.po_some _ _ _ h.h⟩
theorem qi_list {X : L2.Cx} {tg : PySem.Expr} {l : PySem.Expr} {tl : L2.TE} (hl : QE X l tl) : QI X tg l (L2.iList (L2.Cx.K X) tl) := ⟨@L2.pi_list _ _ _ _ hl.h⟩
theorem qi_tup {X : L2.Cx} {tg : PySem.Expr} {l : PySem.Expr} {tl : L2.TE} (hl : QE X l tl) : QI X tg l (L2.iTup (L2.Cx.K X) tl) := ⟨@L2.pi_tup _ _ _ _ hl.h⟩
theorem qi_range1 {X : L2.Cx} {tg : PySem.Expr} {a : PySem.Expr} {ta : L2.TA} {p : PySem.Pos} {pos : PySem.Pos} (hg : L2.Gl X (PySem.Str.ofString "range")) (hm : L2.Cx.mg X (PySem.Str.ofString "range") = Option.none) (ha : QA X [a] ta) (hs : PySem.starEach [a] (L2.Cx.env X) = [(Bool.false, PySem.eval a (L2.Cx.env X))] := by rfl) : QI X tg (PySem.Expr.Call (PySem.Expr.Name (PySem.Str.ofString "range") p) [a] [] pos) (L2.iRng1 ta) := ⟨@L2.pi_range1 _ _ _ _ _ _ hg hm ha.h hs⟩
theorem qg_name {X : L2.Cx} {pos : PySem.Pos} {i : Nat} {x : PySem.Str} (hN : List.Nodup (L2.Cx.N X)) (hi : (L2.Cx.N X)[i]? = Option.some x) (hx : L2.Loc (PySem.Env.scope (L2.Cx.env X)) x) (hf : L2.Cx.fn X x = Bool.true \/ List.lookup x (PySem.Scope.names (PySem.Env.scope (L2.Cx.env X))) = Option.some PySem.NameKind.local := by first | exact .inl rfl | exact .inr rfl | assumption) : QG X (PySem.Expr.Name x pos) (L2.gName i) := ⟨@L2.pg_name _ _ _ _ hN hi hx hf⟩
theorem qg_sub {X : L2.Cx} {pos : PySem.Pos} {o : PySem.Expr} {i : PySem.Expr} {to : L2.TE} {ti : L2.TE} {t : L2.TSet} (ho : QE X o to) (hi : QE X i ti) (hs : L2.PSet X t) (ha : ∀ (v : PySem.Value), PySem.assign (PySem.Expr.Subscript o i pos) (L2.Cx.env X) v = (do let ov <- PySem.holding [v] (PySem.eval o (L2.Cx.env X)); let iv <- PySem.holding [v, ov] (PySem.eval i (L2.Cx.env X)); PySem.standAt pos; PySem.holding [v, ov, iv] (PySem.setItem ov iv v); PySem.release [v, ov, iv] []) := by intro _; rfl) : QG X (PySem.Expr.Subscript o i pos) (L2.gSub to ti t) := ⟨@L2.pg_sub _ _ _ _ _ _ _ ho.h hi.h hs ha⟩
theorem qg_tup {X : L2.Cx} {pos : PySem.Pos} {es : List PySem.Expr} {k : Nat} {t : L2.TGs} {n : Nat} (hc : L2.Cx.calm X = Bool.true) (h : QGs X es t) (hn : List.length (PySem.assignEach es (L2.Cx.env X)) = n := by rfl) (hst : List.findIdx? (fun (x : Bool × (PySem.Value -> PySem.Sem Unit)) => Prod.fst x) (PySem.assignEach es (L2.Cx.env X)) = Option.none := by rfl) : QG X (PySem.Expr.Tuple es k pos) (L2.gTup (L2.Cx.K X) n t) := ⟨@L2.pg_tup _ _ _ _ _ _ hc h.h hn hst⟩
theorem qgs_cons {X : L2.Cx} {e : PySem.Expr} {es : List PySem.Expr} {t : L2.TG} {u : L2.TGs} (h1 : QG X e t) (h2 : QGs X es u) (hs : List.map (fun (x : Bool × (PySem.Value -> PySem.Sem Unit)) => Prod.snd x) (PySem.assignEach (e :: es) (L2.Cx.env X)) = PySem.assign e (L2.Cx.env X) :: List.map (fun (x : Bool × (PySem.Value -> PySem.Sem Unit)) => Prod.snd x) (PySem.assignEach es (L2.Cx.env X)) := by rfl) : QGs X (e :: es) (L2.gCons t u) := ⟨@L2.pgs_cons _ _ _ _ _ h1.h h2.h hs⟩
theorem qaT {X : L2.Cx} {es : List PySem.Expr} {te : L2.TE} {t : L2.TA} {a : List PySem.Expr} {k : Nat} {p : PySem.Pos} (ha : QE X (PySem.Expr.Tuple a k p) te) (hr : QA X es t) : QA X (PySem.Expr.Tuple a k p :: es) (L2.tCons te t) := ⟨@L2.paT _ _ _ _ _ _ _ ha.h hr.h⟩
theorem qaC {X : L2.Cx} {es : List PySem.Expr} {te : L2.TE} {t : L2.TA} {c : PySem.Const} {k : Nat} {p : PySem.Pos} (ha : QE X (PySem.Expr.Constant c k p) te) (hr : QA X es t) : QA X (PySem.Expr.Constant c k p :: es) (L2.tCons te t) := ⟨@L2.paC _ _ _ _ _ _ _ ha.h hr.h⟩
theorem qaN {X : L2.Cx} {es : List PySem.Expr} {te : L2.TE} {t : L2.TA} {x : PySem.Str} {p : PySem.Pos} (ha : QE X (PySem.Expr.Name x p) te) (hr : QA X es t) : QA X (PySem.Expr.Name x p :: es) (L2.tCons te t) := ⟨@L2.paN _ _ _ _ _ _ ha.h hr.h⟩
theorem qaB {X : L2.Cx} {es : List PySem.Expr} {te : L2.TE} {t : L2.TA} {l : PySem.Expr} {r : PySem.Expr} {o : PySem.Operator} {p : PySem.Pos} (ha : QE X (PySem.Expr.BinOp l o r p) te) (hr : QA X es t) : QA X (PySem.Expr.BinOp l o r p :: es) (L2.tCons te t) := ⟨@L2.paB _ _ _ _ _ _ _ _ ha.h hr.h⟩
theorem qaS {X : L2.Cx} {es : List PySem.Expr} {te : L2.TE} {t : L2.TA} {v : PySem.Expr} {i : PySem.Expr} {p : PySem.Pos} (ha : QE X (PySem.Expr.Subscript v i p) te) (hr : QA X es t) : QA X (PySem.Expr.Subscript v i p :: es) (L2.tCons te t) := ⟨@L2.paS _ _ _ _ _ _ _ ha.h hr.h⟩
theorem qaK {X : L2.Cx} {es : List PySem.Expr} {te : L2.TE} {t : L2.TA} {f : PySem.Expr} {a : List PySem.Expr} {k : List PySem.Keyword} {p : PySem.Pos} (ha : QE X (PySem.Expr.Call f a k p) te) (hr : QA X es t) : QA X (PySem.Expr.Call f a k p :: es) (L2.tCons te t) := ⟨@L2.paK _ _ _ _ _ _ _ _ ha.h hr.h⟩
theorem qaM {X : L2.Cx} {es : List PySem.Expr} {te : L2.TE} {t : L2.TA} {l : PySem.Expr} {o : List PySem.CmpOp} {c : List PySem.Expr} {p : PySem.Pos} (ha : QE X (PySem.Expr.Compare l o c p) te) (hr : QA X es t) : QA X (PySem.Expr.Compare l o c p :: es) (L2.tCons te t) := ⟨@L2.paM _ _ _ _ _ _ _ _ ha.h hr.h⟩
theorem qaE {X : L2.Cx} {es : List PySem.Expr} {te : L2.TE} {t : L2.TA} {e : PySem.Expr} {g : List PySem.Comprehension} {s : PySem.Scope} {p : PySem.Pos} (ha : QE X (PySem.Expr.ListComp e g s p) te) (hr : QA X es t) : QA X (PySem.Expr.ListComp e g s p :: es) (L2.tCons te t) := ⟨@L2.paE _ _ _ _ _ _ _ _ ha.h hr.h⟩
theorem qe_maxD {X : L2.Cx} {e : PySem.Expr} {te : L2.TE} {n : Int} {j : Nat} {p : PySem.Pos} {pos : PySem.Pos} {kp : PySem.Pos} {cp : PySem.Pos} (hc : L2.Cx.calm X = Bool.true) (hg : L2.Gl X (PySem.Str.ofString "max")) (hm : L2.Cx.mg X (PySem.Str.ofString "max") = Option.none) (he : QE X e te) (hst : PySem.starEach [e] (L2.Cx.env X) = [(Bool.false, PySem.eval e (L2.Cx.env X))] := by rfl) : QE X (PySem.Expr.Call (PySem.Expr.Name (PySem.Str.ofString "max") p) [e] [{ arg := Option.some (PySem.Str.ofString "default"), value := PySem.Expr.Constant (PySem.Const.int n) j cp, pos := kp }] pos) (L2.tMaxD (L2.Cx.K X) te n) := ⟨@L2.pe_maxD _ _ _ _ _ _ _ _ _ hc hg hm he.h hst⟩
theorem qv {X : L2.Cx} (i : Nat) {x : PySem.Str} {pos : PySem.Pos} (hN : (L2.Cx.N X)[i]? = Option.some x := by rfl) (hv : L2.Vis (PySem.Env.scope (L2.Cx.env X)) x := by first | exact Or.inl rfl | exact Or.inr (Or.inl rfl) | exact Or.inr (Or.inr rfl)) (hd : (x == PySem.Str.ofString "__debug__") = Bool.false := by decide) (hcd : (x == PySem.Str.ofString "__classdict__") = Bool.false := by decide) : QE X (PySem.Expr.Name x pos) (L2.tVar i) := ⟨@L2.pv _ i _ _ hN hv hd hcd⟩
theorem qe_int {X : L2.Cx} {i : Int} {j : Nat} {pos : PySem.Pos} : QE X (PySem.Expr.Constant (PySem.Const.int i) j pos) (L2.tC (L2.V.int i)) := ⟨@L2.pe_int _ _ _ _⟩
theorem qe_str {X : L2.Cx} {x : PySem.Str} {j : Nat} {pos : PySem.Pos} : QE X (PySem.Expr.Constant (PySem.Const.str x) j pos) (L2.tC (L2.V.str x)) := ⟨@L2.pe_str _ _ _ _⟩
theorem qe_bl {X : L2.Cx} {b : Bool} {j : Nat} {pos : PySem.Pos} : QE X (PySem.Expr.Constant (PySem.Const.bool b) j pos) (L2.tC (L2.V.bl b)) := ⟨@L2.pe_bl _ _ _ _⟩
theorem qe_glob {X : L2.Cx} {x : PySem.Str} {v : L2.V} {u : PySem.Value} {pos : PySem.Pos} (hg : L2.Gl X x) (hm : L2.Cx.mg X x = Option.some u) (r : L2.RelV v u) (hd : (x == PySem.Str.ofString "__debug__") = Bool.false := by decide) : QE X (PySem.Expr.Name x pos) (L2.tC v) := ⟨@L2.pe_glob _ _ _ _ _ hg hm r hd⟩
theorem qe_bltn {X : L2.Cx} {x : PySem.Str} {v : L2.V} {u : PySem.Value} {pos : PySem.Pos} (hg : L2.Gl X x) (hm : L2.Cx.mg X x = Option.none) (hv : PySem.bootBuiltins x = Option.some u) (r : L2.RelV v u) (hn : x ≠ PySem.Str.ofString "__name__" := by decide) (hd : (x == PySem.Str.ofString "__debug__") = Bool.false := by decide) : QE X (PySem.Expr.Name x pos) (L2.tC v) := ⟨@L2.pe_bltn _ _ _ _ _ hg hm hv r hn hd⟩
theorem qss_nil {X : L2.Cx} : QSs X [] L2.tNext := ⟨@L2.pss_nil _⟩
theorem qss_never {X : L2.Cx} {sts : List PySem.Stmt} : QSs X sts L2.tNever := ⟨@L2.pss_never _ _⟩
theorem qs_never {X : L2.Cx} {st : PySem.Stmt} : QS X st L2.tNever := ⟨@L2.ps_never _ _⟩
theorem qa_nil {X : L2.Cx} : QA X [] L2.tNil := ⟨@L2.pa_nil _⟩
theorem qo_none {X : L2.Cx} : QO X Option.none L2.tNoPart := ⟨@L2.po_none _⟩
theorem qif_nil {X : L2.Cx} : QIf X [] L2.tYes := ⟨@L2.pif_nil _⟩
theorem qgs_nil {X : L2.Cx} : QGs X [] L2.gNil := ⟨@L2.pgs_nil _⟩
section
variable {P : Program} {w : World} {K : PySem.W.Frag} {mg : Str -> Option Value} {base : Heap}
theorem Fun.okQ {x qual : Str} {st : Stmt} {f : Addr} {fd : FuncData} {N ps : List Str} {k : Nat} {sp : Sp} (F : Fun K x qual st f fd) (S : FnScope N ps (defScope st)) (len : ∀ vs H Q E, sp vs H Q E -> vs.length = ps.length)
    (hbody : ∀ (cdv : Value) (A : Around) (outer : List Env) (s : Shared) (H : Hp) (vs : List V) (Q : VK) (E : XK), Room k (A.deeper (envOfC qual (defScope st) s.heap.objs.size f cdv)) -> sp vs H Q E ->
      ∃ t, QSs (cxOf CX0 P w K mg base N qual (defScope st) f cdv A outer s H E).nox (defBody st) t /\ t { nx := fun _ H' => Q .non H', rt := Q } (start N vs) H) : FnOk P w K mg base CX0 (k + 1) f fd ps sp :=
  F.ok S len fun cdv A outer s H vs Q E hr h => let ⟨t, h1, h2⟩ := hbody cdv A outer s H vs Q E hr h; ⟨t, h1.h, h2⟩
end
end L2
namespace L2
open PySem PySem.Spec PyProof.Rows
section
variable {X : Cx} {pins : List (Addr × Obj)} {σ : St} {H H' : Hp} {s s' : Shared} {M : Model} {E' : Value -> Shared -> Prop} {a : Addr} {cls : Value}
end
end L2
namespace L2
open PySem PySem.Spec PyProof.Rows
section
variable {X : Cx} {pins : List (Addr × Obj)} {σ : St} {H H' : Hp} {s s' : Shared} {a : Addr}
end
section
variable {P : Program} {w : World} {K : PySem.W.Frag} {mg : Str -> Option Value} {base : Heap} {N : List Str} {qual : Str} {scope : Scope} {f : Addr} {cd : Value} {A : Around} {outer : List Env} {s₀ : Shared} {H₀ : Hp} {E : XK}
end
section
variable {X : Cx} {k : Nat} {f Dc : Addr} {fd : FuncData} {ps : List Str} {sp : Sp} {x dn n : Str} {i : Nat} {p cpos epos np hpos pos : Pos} {e : Expr} {es : List Expr} {t : TA} {ts : TS} {b0 : Stmt} {suite : List Stmt}
end
end L2
namespace L2
open PySem PySem.Spec PySem.Calls PyProof.Rows PySem.W Builtin Builtin.ObjectAttr Builtin.Getset_descriptor
section
variable {prog : Program} {w : World} {A : Around} {E : Value -> Shared -> Prop} {K : Frag} {a C : Addr} {s : Shared}
end
section
variable {X : Cx}
end
end L2
namespace L2
open PySem PySem.Spec PyProof.Rows
section
variable {X : Cx} {pins : List (Addr × Obj)} {σ : St} {H : Hp} {s : Shared}
end
section
variable {X : Cx} {pins : List (Addr × Obj)} {σ : St} {H : Hp} {s : Shared} {te : TE} {e : Expr} {pos : Pos} {k : Nat}
end
end L2
namespace L2
open PySem PySem.Spec PyProof.Rows
section
variable {X : Cx}
variable {k : Nat} {f Dc : Addr} {fd : FuncData} {ps : List Str} {sp : Sp} {x dn n : Str} {i : Nat} {p cpos epos np hpos pos : Pos} {e : Expr} {es : List Expr} {t : TA} {ts : TS} {b0 : Stmt} {suite : List Stmt}
end
end L2
namespace L2
open PySem PySem.Spec PyProof.Rows
section
variable {κ : Type} [DecidableEq κ]
def valV (kvs : List (κ × V)) (k : κ) : Option V := (kvs.find? fun kv => decide (kv.1 = k)).map (·.2)
def putK (kvs : List (κ × V)) (k : κ) (v : V) : List (κ × V) :=
  if (kvs.any fun kv => decide (kv.1 = k)) = true then kvs.map (fun kv => if kv.1 = k then (kv.1, v) else kv) else kvs ++ [(k, v)]
theorem valV_pos {p : κ × V} {r : List (κ × V)} {k : κ} (e : p.1 = k) : valV (p :: r) k = some p.2 := by simp [valV, List.find?_cons, e]
theorem valV_neg {p : κ × V} {r : List (κ × V)} {k : κ} (e : ¬ p.1 = k) : valV (p :: r) k = valV r k := by simp [valV, List.find?_cons, e]
theorem valV_any (k : κ) : ∀ kvs : List (κ × V), (kvs.any fun kv => decide (kv.1 = k)) = (valV kvs k).isSome
  | [] => rfl
  | p :: r => by
    rw [List.any_cons]
    by_cases e : p.1 = k
    · simp only [valV_pos e, decide_eq_true e, Bool.true_or, Option.isSome_some]
    · rw [valV_neg e, decide_eq_false e, Bool.false_or]; exact valV_any k r
theorem length_putK (kvs : List (κ × V)) (k : κ) (v : V) : (putK kvs k v).length <= kvs.length + 1 := by
  unfold putK
  split
  · rw [List.length_map]; omega
  · rw [List.length_append, List.length_cons, List.length_nil]; omega
theorem putK_new {kvs : List (κ × V)} {k : κ} (v : V) (h : valV kvs k = none) : putK kvs k v = kvs ++ [(k, v)] := by
  unfold putK
  rw [valV_any, h]
  exact if_neg (by decide)
theorem RelO.isSome_eq {o : Option V} {u : Option Value} (r : RelO o u) : o.isSome = u.isSome := by
  cases o with
  | none => cases u with
    | none => rfl
    | some _ => exact (show False from r).elim
  | some _ => cases u with
    | none => exact (show False from r).elim
    | some _ => rfl
theorem KV.val {kvs : List (κ × V)} {vs : List (κ × Value)} (r : KV kvs vs) (k : κ) : RelO (valV kvs k) (valueAt vs k) := by
  unfold KV at r
  induction r with
  | nil => exact True.intro
  | @cons p q ps qs h t ih =>
    obtain ⟨h1, h2⟩ := h
    by_cases e : p.1 = k
    · have e' : q.1 = k := h1.symm.trans e
      have b : valueAt (q :: qs) k = some q.2 := by simp [valueAt, List.find?_cons, e']
      rw [valV_pos e, b]; exact h2
    · have e' : ¬ q.1 = k := fun z => e (h1.trans z)
      have b : valueAt (q :: qs) k = valueAt qs k := by simp [valueAt, List.find?_cons, e']
      rw [valV_neg e, b]; exact ih
theorem KV.any {kvs : List (κ × V)} {vs : List (κ × Value)} (r : KV kvs vs) (k : κ) : (kvs.any fun kv => decide (kv.1 = k)) = vs.any fun kv => decide (kv.1 = k) := by
  unfold KV at r
  induction r with
  | nil => rfl
  | cons h t ih => rw [List.any_cons, List.any_cons, ih, h.1]
theorem KV.repl {kvs : List (κ × V)} {vs : List (κ × Value)} (r : KV kvs vs) (k : κ) {y : V} {u : Value} (ry : RelV y u) :
    KV (kvs.map fun kv => if kv.1 = k then (kv.1, y) else kv) (vs.map fun kv => if kv.1 = k then (kv.1, u) else kv) := by
  unfold KV at r ⊢
  induction r with
  | nil => exact .nil
  | @cons p q ps qs h t ih =>
    rw [List.map_cons, List.map_cons]
    refine .cons ?_ ih
    obtain ⟨h1, h2⟩ := h
    by_cases e : p.1 = k
    · rw [if_pos e, if_pos (h1.symm.trans e)]; exact ⟨h1, ry⟩
    · rw [if_neg e, if_neg (fun z => e (h1.trans z))]; exact ⟨h1, h2⟩
theorem KV.put {kvs : List (κ × V)} {vs : List (κ × Value)} (r : KV kvs vs) (k : κ) {y : V} {u : Value} (ry : RelV y u) : KV (putK kvs k y) (stored vs k u) := by
  unfold putK stored
  rw [r.any k]
  by_cases e : (vs.any fun kv => decide (kv.1 = k)) = true
  · rw [if_pos e, if_pos e]; exact r.repl k ry
  · rw [if_neg e, if_neg e]; exact Paired.snoc r ⟨rfl, ry⟩
theorem KV.length {kvs : List (κ × V)} {vs : List (κ × Value)} (r : KV kvs vs) : kvs.length = vs.length := Paired.length r
end
theorem kV_is {P : Program} {w : World} {k : Key} {u : Value} (r : RelV (kV k) u) : (mixKind P w).is k u = true := by
  cases k with
  | inl i => obtain ⟨t, e⟩ := (show ∃ t, u = Value.int i t from r); subst e; exact mixKind_int P w i t
  | inr x => obtain ⟨t, e⟩ := (show ∃ t, u = Value.str x t from r); subst e; exact mixKind_str P w x t
theorem items_are {P : Program} {w : World} : ∀ {ks : List Key} {us : List Value}, Vals (ks.map kV) us -> ItemsAre (mixKind P w) ks us
  | [], _, r => by rw [List.map_nil] at r; cases r; exact .nil
  | k :: ks, _, r => by
    rw [List.map_cons] at r
    cases r with
    | cons h t => exact .cons (kV_is h) (items_are t)
abbrev KT (H : Hp) : List (List Key × V) -> List (List Key × Addr × Value) -> Prop := Paired fun p q => p.1 = q.1 /\ H q.2.1 = some (.tup (p.1.map kV)) /\ RelV p.2 q.2.2
theorem KT.val {H : Hp} {kvs : List (List Key × V)} {xs : List (List Key × Addr × Value)} (r : KT H kvs xs) (k : List Key) : RelO (valV kvs k) ((atKey xs k).map (·.2)) := by
  induction r with
  | nil => exact True.intro
  | @cons p q ps qs h t ih =>
    obtain ⟨h1, _, h2⟩ := h
    by_cases e : p.1 = k
    · have e' : q.1 = k := h1.symm.trans e
      have b : atKey (q :: qs) k = some q.2 := by simp [atKey, List.find?_cons, e']
      rw [valV_pos e, b]; exact h2
    · have e' : ¬ q.1 = k := fun z => e (h1.trans z)
      have b : atKey (q :: qs) k = atKey qs k := by simp [atKey, List.find?_cons, e']
      rw [valV_neg e, b]; exact ih
theorem KT.repl {H : Hp} {kvs : List (List Key × V)} {xs : List (List Key × Addr × Value)} (r : KT H kvs xs) (k : List Key) {y : V} {u : Value} (ry : RelV y u) :
    KT H (kvs.map fun kv => if kv.1 = k then (kv.1, y) else kv) (xs.map (putAt k u)) := by
  induction r with
  | nil => exact .nil
  | @cons p q ps qs h t ih =>
    rw [List.map_cons, List.map_cons]
    refine .cons ?_ ih
    obtain ⟨h1, h2, h3⟩ := h
    unfold putAt
    by_cases e : p.1 = k
    · rw [if_pos e, if_pos (h1.symm.trans e)]; exact ⟨h1, h2, ry⟩
    · rw [if_neg e, if_neg (fun z => e (h1.trans z))]; exact ⟨h1, h2, h3⟩
theorem KT.put {H : Hp} {kvs : List (List Key × V)} {xs : List (List Key × Addr × Value)} (r : KT H kvs xs) (k : List Key) {b : Addr} {y : V} {u : Value} (hb : H b = some (.tup (k.map kV))) (ry : RelV y u) :
    KT H (putK kvs k y) (storedH xs k b u) := by
  have e : (kvs.any fun kv => decide (kv.1 = k)) = (atKey xs k).isSome := by
    rw [valV_any, (r.val k).isSome_eq, Option.isSome_map]
  unfold putK storedH
  rw [e]
  by_cases q : (atKey xs k).isSome = true
  · rw [if_pos q, if_pos q]; exact r.repl k ry
  · rw [if_neg q, if_neg q]; exact Paired.snoc r ⟨rfl, hb, ry⟩
theorem KT.keeps {H H' : Hp} {kvs : List (List Key × V)} {xs : List (List Key × Addr × Value)} (r : KT H kvs xs) (ht : ∀ b ys, H b = some (.tup ys) -> H' b = some (.tup ys)) : KT H' kvs xs :=
  Paired.mapP r fun _ _ z => ⟨z.1, ht _ _ z.2.1, z.2.2⟩
section
variable {P : Program} {w : World} {H : Hp} {h : Heap} {a : Addr}
theorem rd_of {u : HO} (ok : HOk P w H h) (e : Rd H a u) : ObjOk P w H h a u := e.ok ok
theorem dk_rd {kvs : List (Key × V)} (ok : HOk P w H h) (e : Rd H a (.dK kvs)) : kvs.length <= sizeLine /\ (a == sysModules) = false /\ ∃ vs, KV kvs vs /\ h.DictOf (mixKind P w) a vs :=
  show ObjOk P w H h a (.dK kvs) from rd_of ok e
theorem dk_of {kvs : List (Key × V)} (ok : HOk P w H h) (e : H a = some (.dK kvs)) : kvs.length <= sizeLine /\ (a == sysModules) = false /\ ∃ vs, KV kvs vs /\ h.DictOf (mixKind P w) a vs := dk_rd ok (.inl e)
theorem key_of {ks : List Key} (ok : HOk P w H h) (e : H a = some (.tup (ks.map kV))) : (tupleKind (mixKind P w)).is h ks a := by
  obtain ⟨_, its, r, o, h1, h2, n, h3⟩ := (show ObjOk P w H h a (.tup (ks.map kV)) from ok a _ e)
  exact ⟨o, its.toArray, n, h1, h2, h3, by simpa using items_are r⟩
theorem dt_rd {kvs : List (List Key × V)} (ok : HOk P w H h) (e : Rd H a (.dT kvs)) : kvs.length <= sizeLine /\ (a == sysModules) = false /\
    ∃ xs, KT H kvs xs /\ h.DictOfH (tupleKind (mixKind P w)) a xs := by
  obtain ⟨z, y, xs, r, o, es, ep, h1, h2, h3, h4, h5⟩ := (show ObjOk P w H h a (.dT kvs) from rd_of ok e)
  refine ⟨z, y, xs, r, o, es, ep, h1, h2, h3, h4, fun x hx => ?_, h5⟩
  have all : ∀ {l : List (List Key × V)} {m : List (List Key × Addr × Value)}, KT H l m -> ∀ x ∈ m, (tupleKind (mixKind P w)).is h x.1 x.2.1 := by
    intro l m q
    induction q with
    | nil => intro x hx; exact nomatch hx
    | @cons p q ps qs hq t ih =>
      intro x hx
      rcases List.mem_cons.mp hx with e | hx
      · subst e
        exact key_of ok (by rw [<- hq.1]; exact hq.2.1)
      · exact ih x hx
  exact all r x hx
theorem dt_of {kvs : List (List Key × V)} (ok : HOk P w H h) (e : H a = some (.dT kvs)) : kvs.length <= sizeLine /\ (a == sysModules) = false /\
    ∃ xs, KT H kvs xs /\ h.DictOfH (tupleKind (mixKind P w)) a xs := dt_rd ok (.inl e)
end
def DGet (H : Hp) (a : Addr) (y : V) (r : Option V) : Prop :=
  (∃ kvs k, Rd H a (.dK kvs) /\ y = kV k /\ r = valV kvs k) \/ ∃ kvs k b, Rd H a (.dT kvs) /\ y = .ref b /\ H b = some (.tup (k.map kV)) /\ r = valV kvs k
def DPut (H : Hp) (a : Addr) (y v : V) (H' : Hp) : Prop :=
  (∃ kvs k, H a = some (.dK kvs) /\ y = kV k /\ kvs.length < sizeLine /\ H' = upd H a (.dK (putK kvs k v))) \/
  ∃ kvs k b, H a = some (.dT kvs) /\ y = .ref b /\ H b = some (.tup (k.map kV)) /\ kvs.length < sizeLine /\ H' = upd H a (.dT (putK kvs k v))
theorem DGet.k {H : Hp} {a : Addr} {kvs : List (Key × V)} {k : Key} (e : H a = some (.dK kvs)) : DGet H a (kV k) (valV kvs k) := .inl ⟨kvs, k, .inl e, rfl, rfl⟩
theorem DGet.t {H : Hp} {a b : Addr} {kvs : List (List Key × V)} {k : List Key} (e : H a = some (.dT kvs)) (eb : H b = some (.tup (k.map kV))) : DGet H a (.ref b) (valV kvs k) := .inr ⟨kvs, k, b, .inl e, rfl, eb, rfl⟩
theorem DPut.t {H : Hp} {a b : Addr} {kvs : List (List Key × V)} {k : List Key} {v : V} (e : H a = some (.dT kvs)) (eb : H b = some (.tup (k.map kV))) (hl : kvs.length < sizeLine) :
    DPut H a (.ref b) v (upd H a (.dT (putK kvs k v))) := .inr ⟨kvs, k, b, e, rfl, eb, hl, rfl⟩
section
variable {X : Cx} {pins : List (Addr × Obj)} {σ : St} {H : Hp} {s : Shared} {a : Addr} {y v : V} {u r : Value} {o : Option V} {A : Around} {E : Value -> Shared -> Prop}
theorem Inv.big (I : Inv X pins σ H s) : sysModules < s.heap.objs.size := by
  have h : mainGlobals < s.heap.objs.size := (I.mod.glob.keeps I.bk).lt
  exact Nat.lt_trans (by decide) h
theorem d_getItem {Q : Value -> Shared -> Prop} (hu : A.units + 1 < cLine) (I : Inv X pins σ H s) (g : DGet H a y (some v)) (ry : RelV y u) (h : ∀ w' s', Inv X pins σ H s' -> RelV v w' -> Q w' s') :
    wpAny (model X.prog X.w) A (getItem (.ref a) u) Q E s := by
  rcases g with ⟨kvs, k, e, ey, l⟩ | ⟨kvs, k, b, e, ey, eb, l⟩
  · subst ey
    obtain ⟨z, hd, vs, rel, dd⟩ := dk_rd I.hok e
    obtain ⟨w', hw, rw'⟩ := RelO.some_of (v := v) (o := valueAt vs k) (by rw [l]; exact rel.val k)
    exact wpAny_getItem_of (kV_is ry) dd.mapOf hw (h w' _ (I.tok _) rw')
  · subst ey
    cases (show u = Value.ref b from ry)
    obtain ⟨z, hd, xs, rel, dd⟩ := dt_rd I.hok e
    obtain ⟨w', hw, rw'⟩ := RelO.some_of (v := v) (o := (atKey xs k).map (·.2)) (by rw [l]; exact rel.val k)
    obtain ⟨p, hp, hp2⟩ := Option.map_eq_some_iff.mp hw
    refine wpAny_getItem_heap (tupleKind_room_in1 hu) (key_of I.hok eb) dd hp ?_
    rw [hp2]
    exact h w' _ (I.tok _) rw'
theorem d_notIn {Q : Value -> Shared -> Prop} (hu : A.units + 1 < cLine) (I : Inv X pins σ H s) (g : DGet H a y o) (ry : RelV y u) (h : ∀ s', Inv X pins σ H s' -> Q (.bool (!o.isSome)) s') :
    wpAny (model X.prog X.w) A (compareOp .NotIn u (.ref a)) Q E s := by
  rcases g with ⟨kvs, k, e, ey, l⟩ | ⟨kvs, k, b, e, ey, eb, l⟩
  · subst ey
    obtain ⟨z, hd, vs, rel, dd⟩ := dk_rd I.hok e
    refine wpAny_notIn_of (kV_is ry) hd dd.mapOf ?_
    rw [<- (rel.val k).isSome_eq, <- l]
    exact h _ (I.tok _)
  · subst ey
    cases (show u = Value.ref b from ry)
    obtain ⟨z, hd, xs, rel, dd⟩ := dt_rd I.hok e
    refine wpAny_notIn_heap (tupleKind_room_in1 hu) (key_of I.hok eb) hd dd ?_
    have q := (rel.val k).isSome_eq
    rw [Option.isSome_map] at q
    rw [<- q, <- l]
    exact h _ (I.tok _)
theorem d_write {h' : Heap} {t' : Nat} {ob : HO} (I : Inv X pins σ H s) (mu : Mut (H a)) (hs : Heap.SameBut a s.heap h') (he : ∃ q, h'.get? a = some q) (new : ObjOk X.prog X.w (upd H a ob) h' a ob) :
    Inv X pins σ (upd H a ob) { s with heap := h', toks := t' } :=
  I.write (x := a) (e := a) mu (.inl rfl) (fun b q hb z => (hs.2 b hb).trans z) he new
theorem dk_new {P : Program} {w : World} {H' : Hp} {h' : Heap} {kvs : List (Key × V)} {vs : List (Key × Value)} (z : kvs.length <= sizeLine) (hd : (a == sysModules) = false) (rel : KV kvs vs) (dd : h'.DictOf (mixKind P w) a vs) :
    ObjOk P w H' h' a (.dK kvs) := ⟨z, hd, vs, rel, dd⟩
theorem d_setItem {H' : Hp} {Q : Unit -> Shared -> Prop} (hu : A.units + 1 < cLine) (I : Inv X pins σ H s) (g : DPut H a y v H') (ry : RelV y u) (rv : RelV v r) (h : ∀ s', Inv X pins σ H' s' -> Q () s') :
    wpAny (model X.prog X.w) A (setItem (.ref a) u r) Q E s := by
  rcases g with ⟨kvs, k, e, ey, l, eH⟩ | ⟨kvs, k, b, e, ey, eb, l, eH⟩
  · subst ey eH
    obtain ⟨z, hd, vs, rel, dd⟩ := dk_of I.hok e
    have hz : vs.length <= sizeLine := by rw [<- rel.length]; exact z
    have hl : (putK kvs k v).length <= sizeLine := by have := length_putK kvs k v; omega
    refine wpAny_setItem_pairs (hsz := hz) (kV_is ry) dd fun h' dd' hs => h _ ?_
    have he : ∃ q, h'.get? a = some q := let ⟨q, _, _, hq, _⟩ := dd'; ⟨q, hq⟩
    exact d_write I (by rw [e]; exact True.intro) hs he (dk_new hl hd (rel.put k rv) dd')
  · subst ey eH
    cases (show u = Value.ref b from ry)
    obtain ⟨z, hd, xs, rel, dd⟩ := dt_of I.hok e
    have hz : xs.length <= sizeLine := by rw [<- Paired.length rel]; exact z
    have hl : (putK kvs k v).length <= sizeLine := by have := length_putK kvs k v; omega
    refine wpAny_setItem_heap (hsz := hz) (tupleKind_room_in1 hu) (key_of I.hok eb) dd fun h' dd' hs => h _ ?_
    obtain ⟨q, es, ep, hq, h2, h3, h4, _, h5⟩ := dd'
    refine d_write I (by rw [e]; exact True.intro) hs ⟨q, hq⟩ ⟨hl, hd, _, (rel.put k eb rv).keeps fun c ys ec => ?_, q, es, ep, hq, h2, h3, h4, h5⟩
    rw [upd_ne (ne_of ec e (fun z => nomatch z))]
    exact ec
end
section
variable {X : Cx} {pins : List (Addr × Obj)} {σ : St} {H : Hp} {s : Shared} {a : Addr} {kvs : List (Key × V)} {k : Key} {u : Value} {A : Around} {E : Value -> Shared -> Prop}
end
def NoSl (i : Expr) : Prop := ∀ ov iv, subscripted i false ov iv = operate [ov, iv] (getItem ov iv)
theorem subD_of {prog : Program} {w : World} {A : Around} {E : Value -> Shared -> Prop} {s : Shared} {env : Env} {value slice : Expr} {pos : Pos} {T id : String} {Q : Value -> Shared -> Prop}
    (hl : typeLookup (.type T) "__getitem__" = pure (some (.builtin id))) (hs : NoSl slice)
    (h : wpAny (model prog w) A (eval value env) (fun o s₁ => wpAny (model prog w) A (eval slice env) (fun i s₂ => s₂.TypeIs o T /\ wpAny (model prog w) A (getItem o i) Q E s₂) E s₁) E s) :
    wpAny (model prog w) A (eval (.Subscript value slice pos) env) Q E s := by
  refine Subscript_ (wpAny_mono h (fun o s₁ h₁ => wpAny_mono h₁ (fun i s₂ h₂ => ?_) fun _ _ x => x) fun _ _ x => x)
  obtain ⟨hT, h₂⟩ := h₂
  unfold subscriptTail
  refine wpAny_bind ?_
  rw [getitemInPython_of_ne hT.not_modules]
  refine wpAny_bind (wpAny_specialOf hT hl ?_)
  have fin : wpAny (model prog w) A (subscripted slice false o i) (fun r s₃ => wpAny (model prog w) A (letTemporaryGo value o r >>= fun _ => pure r) Q E s₃) E s₂ := by
    rw [hs o i]
    exact wpAny_operating (wpAny_mono h₂ (fun r s₃ h₃ => wpAny_bind (wpAny_letTemporaryGo (wpAny_pure h₃))) fun _ _ x => x)
  first
    | exact wpAny_pure (wpAny_bind fin)
    | exact wpAny_bind (wpAny_pure (wpAny_bind fin))
    | exact wpAny_bind fin
theorem dict_typeIs {X : Cx} {pins : List (Addr × Obj)} {σ : St} {H : Hp} {s : Shared} {a : Addr} {y : V} {o : Option V} (I : Inv X pins σ H s) (g : DGet H a y o) : s.TypeIs (.ref a) "dict" := by
  rcases g with ⟨kvs, k, e, _, _⟩ | ⟨kvs, k, b, e, _, _, _⟩
  · obtain ⟨_, _, vs, _, dd⟩ := dk_rd I.hok e
    exact dd.typeIs
  · obtain ⟨_, _, xs, _, dd⟩ := dt_rd I.hok e
    exact dd.typeIs
def tDGet (td ty : TE) : TE := fun σ H Q => td σ H fun x H1 => ty σ H1 fun y H2 => ∃ a v, x = .ref a /\ DGet H2 a y (some v) /\ Q v H2
def sDPut (td ty tv : TE) : TS := fun D σ H => tv σ H fun v H1 => td σ H1 fun x H2 => ty σ H2 fun y H3 => ∃ a H4, x = .ref a /\ DPut H3 a y v H4 /\ D.nx σ H4
section
variable {X : Cx} {o i e value : Expr} {pos pos' tpos : Pos} {td ty tv : TE}
theorem pe_dget (hu : X.A.units + 1 < cLine) (ho : PE X o td) (hi : PE X i ty) (hs : NoSl i) : PE X (.Subscript o i pos) (tDGet td ty) := by
  intro pins s σ H Q I h
  refine subD_of PySem.F.slot_dict_getitem.lookup hs (thn (ho pins s σ H _ I h) fun u s1 ⟨x, H1, I1, rx, q1⟩ => thn (hi pins s1 σ H1 _ I1 q1) fun iv s2 ⟨y, H2, I2, ry, a, v, ex, g, q2⟩ => ?_)
  subst ex
  obtain rfl : u = Value.ref a := rx
  exact ⟨dict_typeIs I2 g, d_getItem hu I2 g ry fun w' s3 I3 rw' => ⟨v, H2, I3, rw', q2⟩⟩
theorem ps_dput (hu : X.A.units + 1 < cLine) (ho : PE X o td) (hi : PE X i ty) (hv : PE X value tv) (hs : swapsWith value (some (.Subscript o i pos')) pos.line X.env = pure false) :
    PS X (.Assign [.Subscript o i pos'] value pos) (sDPut td ty tv) := by
  intro pins s σ H D I h
  refine wpAny_Assign_Subscript (thn (hv pins s σ H _ I h) fun r s1 ⟨v, H1, I1, rv, q1⟩ => thn (ho pins s1 σ H1 _ I1 q1) fun u s2 ⟨x, H2, I2, rx, q2⟩ => thn (hi pins s2 σ H2 _ I2 q2) fun iv s3 ⟨y, H3, I3, ry, a, H4, ex, g, q3⟩ => ?_) hs
  subst ex
  obtain rfl : u = Value.ref a := rx
  exact d_setItem hu I3 g ry rv fun s4 I4 => ⟨σ, H4, I4, q3⟩
end
theorem dk_empty {P : Program} {w : World} {H : Hp} (h : Heap) (hb : sysModules < h.objs.size) : ObjOk P w H (h.push { cls := .type "dict", data := .dict #[] }) h.objs.size (.dK []) :=
  ⟨Nat.zero_le _, beq_eq_false_iff_ne.mpr (Ne.symm (Nat.ne_of_lt hb)), [], .nil, Heap.DictOf.new h⟩
theorem dt_empty {P : Program} {w : World} {H : Hp} (h : Heap) (hb : sysModules < h.objs.size) : ObjOk P w H (h.push { cls := .type "dict", data := .dict #[] }) h.objs.size (.dT []) :=
  ⟨Nat.zero_le _, beq_eq_false_iff_ne.mpr (Ne.symm (Nat.ne_of_lt hb)), [], .nil, _, #[], 0, Heap.get?_push_size _ rfl, ⟨rfl, rfl, rfl⟩, rfl, rfl, List.nodup_nil⟩
def tDNewT : TE := fun _ H Q => ∀ p, H p = none -> Q (.ref p) (upd H p (.dT []))
section
variable {X : Cx} {pos : Pos}
theorem pe_dnewT : PE X (.Dict [] [] pos) tDNewT := fun pins s σ H Q I h =>
  wpAny_Dict_empty ⟨.ref s.heap.objs.size, _, I.laid (a := s.heap.objs.size) (o := .dT []) (t' := s.toks) (fun _ _ q => Heap.get?_push_of_some _ q) (Nat.le_refl _) (dt_empty s.heap I.big), rfl, h _ (I.hok.fresh (Nat.le_refl _))⟩
end
def tPairs : List (TE × TE) -> St -> Hp -> (List (V × V) -> Hp -> Prop) -> Prop
  | [], _, H, Q => Q [] H
  | (tk, tv) :: r, σ, H, Q => tk σ H fun x H1 => tv σ H1 fun y H2 => tPairs r σ H2 fun ps H3 => Q ((x, y) :: ps) H3
abbrev VV : List (V × V) -> List (Value × Value) -> Prop := Paired fun p q => RelV p.1 q.1 /\ RelV p.2 q.2
def PPs (X : Cx) (pos : Pos) (keys : List (Option Expr)) (values : List Expr) (trs : List (TE × TE)) : Prop :=
  ∀ (pins : List (Addr × Obj)) (s : Shared) (σ : St) (H : Hp) (Q : List (V × V) -> Hp -> Prop), Inv X pins σ H s -> tPairs trs σ H Q ->
    wpAny (model X.prog X.w) X.A (evalPairs (pairTrees keys values X.env pos)) (fun vs s' => ∃ ps H', Inv X pins σ H' s' /\ VV ps vs /\ Q ps H') X.xe s
theorem pps_nil {X : Cx} {pos : Pos} : PPs X pos [] [] [] := fun pins s σ H Q I h => pairTrees_nil_walk ⟨[], H, I, .nil, h⟩
theorem pps_cons {X : Cx} {pos : Pos} {k v : Expr} {ks : List (Option Expr)} {vs : List Expr} {tk tv : TE} {trs : List (TE × TE)} (hk : PE X k tk) (hv : PE X v tv) (hr : PPs X pos ks vs trs) :
    PPs X pos (some k :: ks) (v :: vs) ((tk, tv) :: trs) := fun pins s σ H Q I h =>
  pairTrees_cons_walk (thn (hk pins s σ H _ I h) fun u s1 ⟨x, H1, I1, rx, q1⟩ => thn (hv pins s1 σ H1 _ I1 q1) fun w2 s2 ⟨y, H2, I2, ry, q2⟩ =>
    thn (hr pins s2 σ H2 _ I2 q2) fun ws s3 ⟨ps, H3, I3, rel, q3⟩ => ⟨(x, y) :: ps, H3, I3, .cons ⟨rx, ry⟩ rel, q3⟩)
def mergeK (kvs more : List (Key × V)) : List (Key × V) := more.foldl (fun acc kv => putK acc kv.1 kv.2) kvs
theorem KV.merge : ∀ {more : List (Key × V)} {rs : List (Key × Value)} {kvs : List (Key × V)} {vs : List (Key × Value)}, KV more rs -> KV kvs vs -> KV (mergeK kvs more) (merged vs rs) := by
  intro more rs kvs vs r
  unfold KV at r
  induction r generalizing kvs vs with
  | nil => intro q; exact q
  | @cons p q ps qs h t ih =>
    intro r0
    have e : KV (putK kvs p.1 p.2) (stored vs q.1 q.2) := by
      have := r0.put p.1 h.2
      rw [<- h.1]; exact this
    exact ih e
theorem length_mergeK : ∀ (more kvs : List (Key × V)), (mergeK kvs more).length <= kvs.length + more.length
  | [], kvs => by show kvs.length <= kvs.length + 0; omega
  | p :: r, kvs => by
    have h1 := length_mergeK r (putK kvs p.1 p.2)
    have h2 := length_putK kvs p.1 p.2
    show (mergeK (putK kvs p.1 p.2) r).length <= _
    rw [List.length_cons]; omega
theorem carries_of {P : Program} {w : World} : ∀ {kvs : List (Key × V)} {ws : List (Value × Value)}, VV (kvs.map fun kv => (kV kv.1, kv.2)) ws -> ∃ rs, Carries (mixKind P w) ws rs /\ KV kvs rs
  | [], _, r => by rw [List.map_nil] at r; cases r; exact ⟨[], True.intro, .nil⟩
  | p :: kvs, _, r => by
    rw [List.map_cons] at r
    cases r with
    | @cons a b as bs h t =>
      obtain ⟨rs, c, q⟩ := carries_of (P := P) (w := w) t
      obtain ⟨b1, b2⟩ := b
      exact ⟨(p.1, b2) :: rs, ⟨kV_is h.1, rfl, c⟩, .cons ⟨rfl, h.2⟩ q⟩
def tDisp (trs : List (TE × TE)) : TE := fun σ H Q => ∀ p, H p = none -> tPairs trs σ (upd H p (.dK [])) fun ps H2 => H2 p = some (.dK []) /\ ∃ kvs : List (Key × V), ps = kvs.map (fun kv => (kV kv.1, kv.2)) /\ kvs.length <= 15 /\ Q (.ref p) (upd H2 p (.dK (mergeK [] kvs)))
theorem pe_disp {X : Cx} {pos : Pos} {keys : List (Option Expr)} {values : List Expr} {trs : List (TE × TE)} (h : PPs X pos keys values trs) (hall : keys.all (·.isSome) = true) (hl : keys.length = values.length) (h0 : keys ≠ [])
    (h15 : keys.length <= 15) : PE X (.Dict keys values pos) (tDisp trs) := by
  intro pins s σ H Q I q
  have hn := I.hok.fresh (Nat.le_refl s.heap.objs.size)
  have I1 := I.laid (a := s.heap.objs.size) (o := .dK []) (h' := s.heap.push { cls := .type "dict", data := .dict #[] }) (t' := s.toks) (fun _ _ q => Heap.get?_push_of_some _ q) (Nat.le_refl _) (dk_empty s.heap I.big)
  refine wpAny_Dict_walk (knd := mixKind X.prog X.w) hall hl h0 h15 (thn (h pins _ σ _ _ I1 (q _ hn)) fun ws s2 ⟨ps, H2, I2, rel, e, kvs, ep, lk, q2⟩ => ?_)
  subst ep
  obtain ⟨rs, c, rk⟩ := carries_of (P := X.prog) (w := X.w) rel
  obtain ⟨z, hd, vs0, r0, dd⟩ := dk_of I2.hok e
  cases r0
  refine ⟨rs, c, dd, fun h' dd' hs => ⟨.ref s.heap.objs.size, _, ?_, rfl, q2⟩⟩
  have hz : (mergeK [] kvs).length <= sizeLine := by
    have h1 := length_mergeK kvs []
    rw [List.length_nil] at h1
    rw [sizeLine_eq]; omega
  have he : ∃ q, h'.get? s.heap.objs.size = some q := let ⟨q, _, _, hq, _⟩ := dd'; ⟨q, hq⟩
  exact d_write I2 (by rw [e]; exact True.intro) hs he (dk_new hz hd (rk.merge .nil) dd')
section
variable {X : Cx} {pins : List (Addr × Obj)} {σ : St} {H : Hp} {s : Shared} {a : Addr} {y d : V} {u r : Value} {o : Option V} {A : Around} {E : Value -> Shared -> Prop}
end
section
variable {X : Cx} {o e f : Expr} {apos cpos : Pos} {td ty tx : TE}
end
section
variable {X : Cx} {pins : List (Addr × Obj)} {σ : St} {H : Hp} {s : Shared} {a : Addr} {kvs : List (Key × V)} {A : Around} {E : Value -> Shared -> Prop}
end
section
variable {X : Cx} {pins : List (Addr × Obj)} {σ : St} {H : Hp} {s : Shared} {a : Addr} {y : V} {u : Value} {A : Around} {E : Value -> Shared -> Prop}
end
end L2
namespace L2
open PySem PySem.Spec PyProof.Rows
section
variable {X : Cx}
end
section
variable {κ : Type} [DecidableEq κ]
theorem valV_in {kvs : List (κ × V)} {k : κ} {v : V} (h : valV kvs k = some v) : k ∈ kvs.map (·.1) := by
  have q : (kvs.any fun kv => decide (kv.1 = k)) = true := by
    rw [valV_any, h]
    all_goals rfl
  obtain ⟨p, hp, e⟩ := List.any_eq_true.mp q
  exact List.mem_map.mpr ⟨p, hp, of_decide_eq_true e⟩
end
end L2
namespace L2
open PySem PySem.Spec PyProof.Rows
def topKvs : List DictEntry -> List (Str × Value)
  | [] => []
  | e :: r => match e.key with
    | .str x _ => (x, e.val) :: topKvs r
    | _ => topKvs r
def TDict (K : PySem.W.Frag) (w : World) (a : Addr) (kvs : List (Str × Value)) : Prop :=
  ∃ (es : List DictEntry) (n : Nat), K.lookup a = some ⟨.type "dict", none, .dict es.toArray n, #[]⟩ /\ PySem.W.KeysLit w.params es /\ topKvs es = kvs
def valT (kvs : List (Str × Value)) (x : Str) : Option Value := (kvs.find? fun p => p.1 == x).map (·.2)
theorem find_top : ∀ (es : List DictEntry) (x : Str), (es.find? fun e => Value.isStrOf x e.key).map (·.val) = valT (topKvs es) x
  | [], _ => rfl
  | e :: r, x => by
    unfold topKvs
    rw [List.find?_cons]
    cases hk : e.key with
    | str y t =>
      dsimp only
      unfold valT
      rw [List.find?_cons]
      show Option.map _ (match (y == x) with | true => some e | false => _) = _
      cases y == x
      · exact find_top r x
      · rfl
    | _ => exact find_top r x
theorem TDict.map {K : PySem.W.Frag} {w : World} {a : Addr} {kvs : List (Str × Value)} {prog : Program} {h : Heap} (d : TDict K w a kvs) (X : K.In h) : h.MapOf (strKind prog w) a (fun k => valT kvs k) := by
  obtain ⟨es, n, hl, hk, rfl⟩ := d
  have m := PySem.W.mapOf_K (prog := prog) X hl hk
  have e : (fun k => findBy Value.isStrOf es.toArray k) = fun k => valT (topKvs es) k := funext fun x => by
    unfold findBy
    rw [List.find?_toArray]
    exact find_top es x
  rw [e] at m
  exact m
section
variable {X : Cx}
theorem op_notInTop : OpR X (compareOp .NotIn) (fun x y H Q => ∃ z a kvs, x = .str z /\ y = .ref a /\ TDict X.K X.w a kvs /\ (a == sysModules) = false /\ Q (.bl (!(valT kvs z).isSome)) H) := by
  intro pins s σ H x y v u Q I rx ry h
  obtain ⟨z, a, kvs, rfl, rfl, d, lo, q⟩ := h
  obtain ⟨t, rfl⟩ := rx
  cases ry
  exact wpAny_notIn_of (strKind_is X.prog X.w z t) lo (d.map I.kIn) ⟨.bl _, H, I.tok _, rfl, q⟩
theorem ix_top : IxR X (fun x y H Q => ∃ z a kvs u v, x = .ref a /\ y = .str z /\ TDict X.K X.w a kvs /\ valT kvs z = some u /\ RelV v u /\ Q v H) := by
  intro value slice pins s σ H x y v u Q I rx ry h hs
  obtain ⟨z, a, kvs, u', v', rfl, rfl, d, e, r, q⟩ := h
  obtain ⟨t, rfl⟩ := ry
  cases rx
  have hm := d.map (prog := X.prog) I.kIn
  exact tail_any hm.typeIs slot_dict_getitem.lookup (wpAny_getItem_of (strKind_is X.prog X.w z t) hm e ⟨v', H, I.tok _, r, q⟩) hs
end
end L2
namespace L2
open PySem PySem.Spec PyProof.Rows
section
variable {X : Cx} {tg : Expr}
end
end L2
namespace L2
open PySem PySem.Spec PySem.Calls PyProof.Rows Builtin Builtin.Str
section
variable {X : Cx}
end
end L2
namespace L2
open PySem PySem.Spec PySem.Calls PyProof.Rows Builtin Builtin.Tuple
section
variable {X : Cx}
end
end L2
namespace L2
open PySem PySem.Spec PyProof.Rows
section
variable {X : Cx} {pins : List (Addr × Obj)} {σ : St} {H : Hp} {s : Shared} {h' : Heap}
theorem Inv.turnedT {t' : Nat} {wr : List Addr} {T : Addr} {vs : List V} {its : List Value} (I : Inv X pins σ H s) (k : ∀ b o, b ∉ wr -> s.heap.get? b = some o -> h'.get? b = some o) (hf : ∀ b ∈ wr, FpOk X pins H b)
    (hT : s.heap.objs.size <= T) (hz : vs.length <= sizeLine) (hv : Vals vs its) (ht : IsTup h' T its.toArray) : Inv X pins σ (upd H T (.tup vs)) { s with heap := h', toks := t' } := by
  have hn : H T = none := I.hok.fresh hT
  have nw : ∀ b u, H b = some u -> b ∉ wr := fun b u e z => by
    have := (hf b z).1
    rw [this] at e
    cases e
  have nT : ∀ b o, s.heap.get? b = some o -> b ≠ T := fun b o e z => by
    subst z
    exact absurd (Nat.lt_of_lt_of_le (Heap.lt_size e) hT) (Nat.lt_irrefl _)
  refine I.step (H' := upd H T (.tup vs)) (g' := s.gens) (d' := s.drawn) (ch := wr) (fun b hb => ?_) (fun b o _ _ hc e _ => k b o hc e) (fun b o _ _ hc e _ => ⟨o.slots, k b o hc e⟩) (fun b o _ e n => by rw [upd_ne (nT b o e)]; exact n)
    (fun b o hc e => ⟨o, k b o hc e⟩) (fun b xs e => by rw [upd_ne (ne_of_none e hn)]; exact e) (fun b o u e => by rw [upd_ne (ne_of_none e hn)]; exact e) (fun b ps e => ⟨#[], by rw [upd_ne (ne_of_none e hn), e]; simp⟩) (fun m hm => ?_) (fun b u e => ?_) I.bare
  · obtain ⟨f0, f1, f2, f3, f4, f5⟩ := hf b hb
    exact ⟨f3, f1, f4, f5⟩
  · obtain ⟨o, es, ep, ho, r⟩ := hm
    exact ⟨o, es, ep, k _ o (fun z => (hf _ z).2.1 rfl) ho, r⟩
  · by_cases hb : b = T
    · subst hb
      rw [upd_same] at e
      cases e
      exact ⟨hz, its, hv, ht⟩
    · rw [upd_ne hb] at e
      refine (I.hok b u e).stay (fun c v hc q => k c v ?_ q) (fun c q => by rw [upd_ne (ne_of_none q hn)]; exact q) fun c xs q => by rw [upd_ne (ne_of_none q hn)]; exact q
      rcases hc with z | z
      · rw [z]; exact nw b u e
      · exact nw c _ z
theorem Inv.turnedL {t' : Nat} {wr : List Addr} (I : Inv X pins σ H s) (k : ∀ b o, b ∉ wr -> s.heap.get? b = some o -> h'.get? b = some o) (hf : ∀ b ∈ wr, FpOk X pins H b) : Inv X pins σ H { s with heap := h', toks := t' } := by
  have nw : ∀ b u, H b = some u -> b ∉ wr := fun b u e z => by
    have := (hf b z).1
    rw [this] at e
    cases e
  refine I.step (g' := s.gens) (d' := s.drawn) (ch := wr) (fun b hb => ?_) (fun b o _ _ hc e _ => k b o hc e) (fun b o _ _ hc e _ => ⟨o.slots, k b o hc e⟩) (fun _ _ _ _ n => n)
    (fun b o hc e => ⟨o, k b o hc e⟩) (fun _ _ e => e) (fun _ _ _ e => e) (fun b ps e => ⟨#[], by rw [e]; simp⟩) (fun m hm => ?_) (fun b u e => ?_) I.bare
  · obtain ⟨f0, f1, f2, f3, f4, f5⟩ := hf b hb
    exact ⟨f3, f1, f4, f5⟩
  · obtain ⟨o, es, ep, ho, r⟩ := hm
    exact ⟨o, es, ep, k _ o (fun z => (hf _ z).2.1 rfl) ho, r⟩
  · refine (I.hok b u e).stay (fun c v hc q => k c v ?_ q) (fun _ q => q) fun _ _ q => q
    rcases hc with z | z
    · rw [z]; exact nw b u e
    · exact nw c _ z
end
def ItW (n : Nat) (G : Hp -> Prop) (R : Nat -> List V -> Prop) : It :=
  ⟨fun i H => i < n /\ G H, fun i H x H' => ∃ T vs, x = .ref T /\ H T = none /\ R i vs /\ H' = upd H T (.tup vs), fun i H => i = n /\ G H⟩
theorem for_wt {n : Nat} {G : Hp -> Prop} {R : Nat -> List V -> Prop} {g : TG} {tb : TS} {D : Ends} {σ : St} {H : Hp} (Pv : Nat -> St -> Hp -> Prop) (h0 : Pv 0 σ H) (hg : ∀ i σ H, i <= n -> Pv i σ H -> G H)
    (hs : ∀ i T vs σ H, i < n -> R i vs -> Pv i σ H -> H T = none -> g (.ref T) σ (upd H T (.tup vs)) fun σ2 H2 => tb { D with nx := Pv (i + 1), ct := Pv (i + 1), bk := D.nx } σ2 H2) (hd : ∀ σ H, Pv n σ H -> D.nx σ H) :
    ∃ W : Nat -> Nat -> St -> Hp -> Prop, (∃ m, W 0 m σ H) /\ ∀ i m σ H, W i m σ H ->
      ((ItW n G R).stop i H /\ D.nx σ H) \/ ((ItW n G R).go i H /\ ∃ N : St -> Hp -> Prop, (∀ σ' H', N σ' H' -> ∃ m', m' < m /\ W (i + 1) m' σ' H') /\ ∀ x H', (ItW n G R).yld i H x H' -> g x σ H' fun σ2 H2 => tb { D with nx := N, ct := N, bk := D.nx } σ2 H2) := by
  refine ⟨fun i m σ H => m = n - i /\ i <= n /\ Pv i σ H, ⟨n, by simp, Nat.zero_le _, h0⟩, ?_⟩
  rintro i m σ H ⟨rfl, hi, p⟩
  have q := hg i σ H hi p
  by_cases hlt : i < n
  · refine .inr ⟨⟨hlt, q⟩, Pv (i + 1), fun σ' H' p' => ⟨n - (i + 1), by omega, rfl, hlt, p'⟩, fun x H' y => ?_⟩
    obtain ⟨T, vs, rfl, hT, r, rfl⟩ := y
    exact hs i T vs σ H hlt r p hT
  · have e : i = n := by omega
    subst e
    exact .inl ⟨⟨rfl, q⟩, hd σ H p⟩
section
variable {X : Cx} {elts : List Expr} {k : Nat} {tpos : Pos}
end
end L2
namespace L2
open PySem PySem.Spec PyProof.Rows
theorem ps_setC {X : Cx} {elt iter : Expr} {ifs : List Expr} {sc : Scope} {pos px py spos : Pos} {t y : Str} {ys : List Str} {js : List Nat} {wi : TI} {tc : TT} {te : TE} {g : TG} (hc : X.calm = true) (hck : compChk X.N X.env.scope sc t ys js = true)
    (hi : PI X (.Name t px) iter wi) (hf : ∀ cl C s H fp, PIf (X.comp sc cl C (t :: ys) s H fp) ifs tc) (he : ∀ cl C s H fp, PE (X.comp sc cl C (t :: ys) s H fp) elt te) (hg : PG X (.Name y py) g)
    (hsw : swapsWith (.ListComp elt [⟨.Name t px, iter, ifs, 0⟩] sc pos) (some (.Name y py)) spos.line X.env = pure true) (hs : ∀ x, foldedSetIterable iter X.env x = pure x := by intro _; rfl) :
    PS X (.Assign [.Name y py] (.ListComp elt [⟨.Name t px, iter, ifs, 0⟩] sc pos) spos) (tAsg (tComp wi js tc te) g) := by
  have ck := compOk_of hck
  intro pins s σ H D0 I h
  have hfr : ∀ x, (x, NameKind.free) ∈ sc.names -> ∃ c, X.env.cells.lookup x = some c := fun x hx => I.ok.has x (.inl (ck.fre _ hx rfl))
  obtain ⟨cl, hcl, cl1, cl2⟩ := clos_ok hfr
  rw [exec_Assign_Name_used _ _ _ _ hsw]
  refine wpAny_bind (wpAny_standAt (wpAny_bind ?_))
  show wpAny _ X.A (do let _ <- comprehension (.ListComp elt [⟨.Name t px, iter, ifs, 0⟩] sc pos) sc X.env _ (newList []) false (eval iter X.env) (some (assign (.Name y py) X.env))) _ _ s
  refine wpAny_bind (wpAny_mono (wpAny_comprehension_free (use := some (assign (.Name y py) X.env)) (Q := fun _ s' => SP X pins D0 .next s') rfl hs hcl ck.kind ck.loc (thn (hi pins s σ H _ I h) fun v s1 h1 => thn h1 fun itv s2 h2 => ?_)) (fun _ s' hq => wpAny_pure (wpAny_pure hq)) fun _ _ e => e)
  obtain ⟨it, fp, tn, J, H2, e, I2, T, st2, f2, hR⟩ := h2
  subst e
  refine wpAny_newObj_type (wpAny_newFunctionEnv ck.ncell (by intro y hy; simp at hy) (fun h1 hns hsb => ?_) ck.kind)
  dsimp only at hns hsb ⊢
  generalize hp : s2.heap.push { cls := .type "list", dict := none, data := .seq ([] : List Value).toArray } = hh at hns hsb ⊢
  have hC : hh.objs.size = s2.heap.objs.size + 1 := by rw [<- hp, Heap.size_push]
  have neD : ∀ {b : Addr}, b < s2.heap.objs.size -> b ≠ s2.heap.objs.size := fun hb => Nat.ne_of_lt hb
  have neC : ∀ {b : Addr}, b < s2.heap.objs.size -> b ≠ hh.objs.size := fun hb => by rw [hC]; exact Nat.ne_of_lt (Nat.lt_succ_of_lt hb)
  have hDC : s2.heap.objs.size ≠ hh.objs.size := by rw [hC]; exact Nat.ne_of_lt (Nat.lt_succ_self _)
  have hCle : s2.heap.objs.size <= hh.objs.size := by rw [hC]; exact Nat.le_succ _
  have old : ∀ b o, s2.heap.get? b = some o -> h1.get? b = some o := fun b o e => hsb.extBut b o (neC (Heap.lt_size e)) (Heap.get?_push_of_some _ (hp ▸ Heap.get?_push_of_some _ e))
  have hnew : h1.get? s2.heap.objs.size = some { cls := .type "list", dict := none, data := .seq ([] : List Value).toArray } := hsb.extBut _ _ hDC (Heap.get?_push_of_some _ (hp ▸ Heap.get?_push_size _ rfl))
  have fpH : ∀ b ∈ fp, ∃ o, s2.heap.get? b = some o := fun b hb => let ⟨o, e, _⟩ := T.obj 0 _ st2 b hb; ⟨o, e⟩
  have fpD : ∀ b ∈ fp, b ≠ s2.heap.objs.size := fun b hb => by obtain ⟨o, e⟩ := fpH b hb; exact neD (Heap.lt_size e)
  have fpC : ∀ b ∈ fp, b ≠ hh.objs.size := fun b hb => by obtain ⟨o, e⟩ := fpH b hb; exact neC (Heap.lt_size e)
  have fpS : ∀ b ∈ fp, b ∉ frs X.stack := fun b hb z => (List.mem_cons.mp (I2.stkSub b z)).elim (f2 b hb).2.1 (f2 b hb).2.2.1
  have hok' : (X.comp sc cl hh.objs.size (t :: ys) s2 H2 fp).Ok := by
    refine ⟨I2.ok.mod, ck.kind, I2.ok.glob, I2.ok.blt, hCle, fun x y c a b => I2.ok.inj x y c (cl1 x c a) (cl1 y c b), fun x hx => ?_, (fun x c z => nomatch z), I2.ok.hd, I2.ok.frames, .inl rfl, fun b hb => ⟨fpC b hb, fun x c a => (f2 b hb).2.2.2.2.1 x c (cl1 x c a)⟩,
      I2.bs, Nat.le_trans I2.ok.bsz I2.sz, fun b o e hb => ?_, fun b hb => fpS b hb, I2.stack, I2.stkFree⟩
    · have hx' : (sc.names.map fun (n, k) => if (k == NameKind.free && X.env.scope.kind == .function && X.env.kindOf n == some .cell) then (n, NameKind.cell) else (n, k)).lookup x = some .cell \/ (sc.names.map fun (n, k) => if (k == NameKind.free && X.env.scope.kind == .function && X.env.kindOf n == some .cell) then (n, NameKind.cell) else (n, k)).lookup x = some .free := hx
      rcases hx' with z | z
      · rcases relabel_inv z with q | ⟨_, q⟩
        · exact absurd rfl (ck.ncell _ (PySem.mem_of_lookup q))
        · exact cl2 x (PySem.mem_of_lookup q)
      · rcases relabel_inv z with q | ⟨q, _⟩
        · exact cl2 x (PySem.mem_of_lookup q)
        · cases q
    · rcases (f2 b hb).2.2.2.1 with z | z
      · exact I2.ok.noex b o e z
      · exact absurd (Nat.lt_of_lt_of_le (Heap.lt_size e) (Nat.le_trans I2.ok.bsz z)) (Nat.lt_irrefl _)
  have Iin : ∀ tk : Nat, Inv (X.comp sc cl hh.objs.size (t :: ys) s2 H2 fp) [] (none :: compS js σ) (upd H2 s2.heap.objs.size (.lst [])) { s2 with heap := h1, toks := tk } := fun tk => by
    refine ⟨hok', rfl, I2.bare, Un.laid old (Nat.le_refl _) I2.fresh, ⟨_, hns, fun i x v e1 e2 e3 => ?_⟩, fun x c e => ?_, ?_, fun x c e => ?_, fun p hp => absurd (show p ∈ ([] : List (Addr × Obj)) from hp) (by simp), I2.hok.laid old (Nat.le_refl _) ⟨Nat.zero_le _, [], 0, .nil, hnew⟩, ?_⟩
    · cases i with
      | zero => simp at e2
      | succ k =>
        have e1' : ys[k]? = some x := e1
        have e2' : (compS js σ)[k]? = some (some v) := by simpa using e2
        unfold compS at e2'
        rw [List.getElem?_map] at e2'
        have q := congrArg (fun l => l[k]?) ck.ysj
        simp only [List.getElem?_map, e1', Option.map_some] at q
        cases hj : js[k]? with
        | none => rw [hj] at q; cases q
        | some j =>
          rw [hj] at q e2'
          have q1 : X.N[j]? = some x := (Option.some.inj q).symm
          have q2 : σ[j]? = some (some v) := by
            have z : (σ[j]?).join = some v := Option.some.inj e2'
            cases hz : σ[j]? with
            | none => rw [hz] at z; cases z
            | some y => rw [hz] at z; exact congrArg some z
          have hf' := ck.ysf x (List.mem_of_getElem? e1')
          have hcell := ck.fre _ (PySem.mem_of_lookup hf') rfl
          obtain ⟨m2, hn2, hl2⟩ := I2.loc
          obtain ⟨u, ru, lk⟩ := hl2 j x v q1 q2 (.inr (.inl hcell))
          refine ⟨u, ru, ?_⟩
          rcases lk with ⟨kk, _⟩ | ⟨_, c, ec, ic⟩
          · have kk' : X.env.scope.names.lookup x = some .local := kk
            have hcell' : X.env.scope.names.lookup x = some .cell := hcell
            rw [hcell'] at kk'; cases kk'
          · obtain ⟨c', ec'⟩ := cl2 x (PySem.mem_of_lookup hf')
            have : c' = c := Option.some.inj ((cl1 x c' ec').symm.trans ec)
            subst this
            refine .inr ⟨relabel_free hf', c', ec', ?_⟩
            obtain ⟨o, ho, hd⟩ := ic
            exact ⟨o, old _ o ho, hd⟩
    · obtain ⟨v, o, ho, hd⟩ := I2.cell x c (cl1 x c e)
      exact ⟨v, o, old _ o ho, hd⟩
    · show upd H2 s2.heap.objs.size _ hh.objs.size = none
      rw [upd_ne (Ne.symm hDC)]
      exact I2.hok.fresh hCle
    · obtain ⟨v, o, ho, hd⟩ := I2.cell x c (cl1 x c e)
      rw [upd_ne (neD (Heap.lt_size ho))]
      exact I2.freeC x c (cl1 x c e)
    · show (none :: compS js σ).length = (t :: ys).length
      have q := congrArg List.length ck.ysj
      simp only [List.length_map] at q
      unfold compS
      simp only [List.length_cons, List.length_map]
      omega
  have st1 : tn 0 h1 := T.keep _ _ _ st2 fun b hb o e => old b o e
  obtain ⟨W, ⟨m0, w0⟩, turn⟩ := hR s2.heap.objs.size I2.fresh
  have fpok : ∀ {H' : Hp}, (∀ b ∈ fp, H' b = none) -> ∀ b ∈ fp, FpOk (X.comp sc cl hh.objs.size (t :: ys) s2 H2 fp) [] H' b := fun hn b hb =>
    ⟨hn b hb, fpC b hb, fpS b hb, .inl hb, fun x c a => (f2 b hb).2.2.2.2.1 x c (cl1 x c a), fun p hp => absurd (show p ∈ ([] : List (Addr × Obj)) from hp) (by simp)⟩
  have ndN : (t :: ys).Nodup := ck.nd
  have loop : ∀ s3 : Shared, s3 = { s2 with heap := h1, toks := s2.toks + ([] : List (Str × Value)).length } ->
      codeAny (model X.prog X.w) X.A (.compLoop (.ListComp elt [⟨.Name t px, iter, ifs, 0⟩] sc pos) 0 (.ref it) (.ref s2.heap.objs.size) (compEnvC sc cl hh.objs.size X.env))
        (compPost (model X.prog X.w) X.A X.xe (some (assign (.Name y py) X.env)) (fun _ s' => SP X pins D0 .next s') (.ref s2.heap.objs.size) hh.objs.size) s3 := by
    rintro s3 rfl
    refine comp_turns (fun n s' => ∃ i acc H', Inv (X.comp sc cl hh.objs.size (t :: ys) s2 H2 fp) [] (none :: compS js σ) H' s' /\ tn i s'.heap /\ (∀ b ∈ fp, H' b = none) /\ W i n acc H') ?_ m0
      ⟨0, [], _, Iin _, st1, fun b hb => by rw [upd_ne (fpD b hb)]; exact (f2 b hb).1, w0⟩
    rintro n s3 ⟨i, acc, H3, I3, st3, fr3, w3⟩
    obtain ⟨hD, hz, alt⟩ := turn i n acc H3 w3
    rcases alt with ⟨stop, q⟩ | ⟨go, step⟩
    · refine thn (T.done (X.comp sc cl hh.objs.size (t :: ys) s2 H2 fp) rfl rfl rfl hc i [] s3 _ H3 _ I3 (fpok fr3) st3 stop) fun r s4 ⟨hr, I4⟩ => ?_
      subst hr
      obtain ⟨m, hn, _⟩ := id I4.loc
      have ltC : ∀ b o, s2.heap.get? b = some o -> b ≠ hh.objs.size := fun b o e => neC (Heap.lt_size e)
      have b4 : Un (frs X.stack) fp H2 H3 s2.heap s4.heap := I4.base
      have I5 : Inv X pins σ H3 s4 := I2.call' (s' := s4) (ch := fp) I4.os ⟨fun b o e n1 n2 n3 => b4.keep b o e n1 n2 n3, fun b o e n1 n2 n3 => b4.slot b o e n1 n2 n3, b4.free, fun b o e n1 => b4.there b o e n1, b4.tups, b4.frzs, b4.tbls⟩ (fun b ob e => I4.hok b ob e) I4.bare
        (fun b hb => ⟨(f2 b hb).2.2.2.1, (f2 b hb).2.1, (f2 b hb).2.2.2.2.1, (f2 b hb).2.2.2.2.2⟩)
      have fC : FpOk X pins H3 hh.objs.size := I2.fpOk hCle I4.free
      obtain ⟨oC, es, ep, hoC, dC, rC⟩ := id hn
      have I6 : Inv X (pins ++ [(hh.objs.size, oC)]) σ H3 s4 := I5.pins_of fun p hp => (List.mem_append.mp hp).elim (fun z => I5.pin p (List.mem_append_right _ z)) fun z => by
        rw [List.mem_singleton.mp z]
        exact ⟨hoC, fC.1, fC.2.1, fC.2.2.1, fun v z => by rw [dC] at z; cases z⟩
      show wpAny _ X.A (assign (.Name y py) X.env (.ref s2.heap.objs.size)) _ _ s4
      refine thn (hg _ s4 σ H3 (.ref s2.heap.objs.size) _ _ I6 rfl q) fun _ s7 ⟨σ7, H7, I7, q7⟩ => ?_
      obtain ⟨p1, p2, p3, p4, p5⟩ := I7.pin (hh.objs.size, oC) (List.mem_append_right _ (List.mem_append_right _ (List.mem_singleton.mpr rfl)))
      refine ⟨m, ⟨oC, es, ep, p1, dC, rC⟩, fun h' sb => ⟨σ7, H7, ?_, q7⟩⟩
      exact I7.unpinned.turned (t' := s7.toks) (fun b o hb e => (sb.2 b hb).trans e) p2 p3 fC.2.2.2.1 fC.2.2.2.2.1 fC.2.2.2.2.2
    · refine thn (T.item (X.comp sc cl hh.objs.size (t :: ys) s2 H2 fp) rfl rfl rfl hc i [] s3 _ H3 _ I3 (fpok fr3) st3 go) fun r s4 ⟨u, hr, h4⟩ => ?_
      subst hr
      refine thn h4 fun _ s5 ⟨x, H5, I5, r5, y5, st5, fr5⟩ => ?_
      have I5' := I5.pinned (fpok fr5) (T.obj _ _ st5)
      refine wpAny_assign_Name (store_ok (i := 0) I5' ndN rfl (.inl (lookup_relabel_local ck.tl)) r5 (fun s6 I6 => ?_) (.inr (lookup_relabel_local ck.tl)))
      have again : ∀ {H7 : Hp} {s7 : Shared} {m' : Nat} {acc' : List V}, Inv (X.comp sc cl hh.objs.size (t :: ys) s2 H2 fp) ([] ++ pinsAt fp s5.heap) (some x :: compS js σ) H7 s7 -> m' < n -> W (i + 1) m' acc' H7 ->
          ∃ m, m < n /\ ∃ i acc H', Inv (X.comp sc cl hh.objs.size (t :: ys) s2 H2 fp) [] (none :: compS js σ) H' s7 /\ tn i s7.heap /\ (∀ b ∈ fp, H' b = none) /\ W i m acc H' := fun {H7 s7 m' acc'} I7 hm w7 => by
        refine ⟨m', hm, i + 1, acc', H7, (I7.unpinned).weak rfl (fun k v e => ?_), T.keep _ _ _ st5 fun b hb o e => (I7.pin (b, o) (List.mem_append_right _ (List.mem_append_right _ (mem_pinsAt hb e)))).1, fun b hb => ?_, w7⟩
        · cases k with
          | zero => simp at e
          | succ k => simpa using e
        · obtain ⟨o, e, d⟩ := T.obj _ _ st5 b hb
          exact (I7.pin (b, o) (List.mem_append_right _ (List.mem_append_right _ (mem_pinsAt hb e)))).2.1
      refine thn (hf _ _ _ _ _ _ s6 _ H5 _ I6 (step x H5 y5)) fun ok s7 ⟨H7, I7, q7⟩ => ?_
      cases ok with
      | false =>
        obtain ⟨m', hm, w7⟩ := q7
        exact again I7 hm w7
      | true =>
        refine thn (he _ _ _ _ _ _ s7 _ H7 _ I7 q7) fun uy s8 ⟨y, H8, I8, r8, hD8, m', hm, w8⟩ => ?_
        refine thn (mt_append (X := X.comp sc cl hh.objs.size (t :: ys) s2 H2 fp) _ s8 _ H8 (.ref s2.heap.objs.size) [y] (.ref s2.heap.objs.size) [uy] (fun _ H9 => W (i + 1) m' (acc ++ [y]) H9) I8 rfl (.cons r8 .nil) ⟨_, acc, y, rfl, rfl, hD8, hz, w8⟩) fun _ s9 ⟨_, H9, I9, _, q9⟩ => ?_
        exact again I9 hm q9
  exact codeAny_compStart_list (loop _ rfl) (T.self _ 0 _ _ _ st1 (loop _ rfl))
theorem qs_setC {X : Cx} {elt iter : Expr} {ifs : List Expr} {sc : Scope} {pos px py spos : Pos} {t y : Str} {ys : List Str} {js : List Nat} {wi : TI} {tc : TT} {te : TE} {g : TG} (hc : X.calm = true) (hck : compChk X.N X.env.scope sc t ys js = true)
    (hi : QI X (.Name t px) iter wi) (hf : ∀ cl C s H fp, QIf (X.comp sc cl C (t :: ys) s H fp) ifs tc) (he : ∀ cl C s H fp, QE (X.comp sc cl C (t :: ys) s H fp) elt te) (hg : QG X (.Name y py) g)
    (hsw : swapsWith (.ListComp elt [⟨.Name t px, iter, ifs, 0⟩] sc pos) (some (.Name y py)) spos.line X.env = pure true) (hs : ∀ x, foldedSetIterable iter X.env x = pure x := by intro _; rfl) :
    QS X (.Assign [.Name y py] (.ListComp elt [⟨.Name t px, iter, ifs, 0⟩] sc pos) spos) (tAsg (tComp wi js tc te) g) := ⟨ps_setC hc hck hi.h (fun cl C s H fp => (hf cl C s H fp).h) (fun cl C s H fp => (he cl C s H fp).h) hg.h hsw hs⟩
end L2
namespace L2
open PySem PySem.Spec PyProof.Rows
def compChkT (N : List Str) (osc sc : Scope) (ts : List Str) (ys : List Str) (js : List Nat) : Bool :=
  sc.kind == .function && sc.names.all (fun y => y.2 != .cell) && sc.names.all (fun y => y.2 != .local || sc.names.lookup y.1 == some .local) &&
  sc.names.all (fun y => y.2 != .free || osc.names.lookup y.1 == some .cell) && (ys.map some == js.map fun j => N[j]?) &&
  ys.all (fun y => sc.names.lookup y == some .free)
structure CompOkT (N : List Str) (osc sc : Scope) (ys : List Str) (js : List Nat) : Prop where
  kind : sc.kind = .function
  ncell : ∀ y ∈ sc.names, y.2 ≠ .cell
  loc : ∀ y ∈ sc.names, y.2 = .local -> sc.names.lookup y.1 = some .local
  fre : ∀ y ∈ sc.names, y.2 = .free -> osc.names.lookup y.1 = some .cell
  ysj : ys.map some = js.map fun j => N[j]?
  ysf : ∀ y ∈ ys, sc.names.lookup y = some .free
theorem compOkT_of {N : List Str} {osc sc : Scope} {ts ys : List Str} {js : List Nat} (h : compChkT N osc sc ts ys js = true) : CompOkT N osc sc ys js := by
  unfold compChkT at h
  simp only [Bool.and_eq_true, List.all_eq_true, decide_eq_true_eq, Bool.or_eq_true, bne_iff_ne, beq_iff_eq] at h
  obtain ⟨⟨⟨⟨⟨a, b⟩, c⟩, d⟩, e⟩, f⟩ := h
  exact ⟨a, fun y hy => b y hy, fun y hy z => (c y hy).resolve_left fun q => q z, fun y hy z => (d y hy).resolve_left fun q => q z, e, f⟩
def CompWT (J : It) (g : TG) (n : Nat) (js : List Nat) (tc : TT) (te : TE) (σ : St) (Q : VK) (D : Addr) (H1 : Hp) : Prop := ∃ W : Nat -> Nat -> List V -> Hp -> Prop, (∃ m, W 0 m [] (upd H1 D (.lst []))) /\
  ∀ i m acc H, W i m acc H -> H D = some (.lst acc) /\ acc.length < sizeLine /\ ((J.stop i H /\ Q (.ref D) H) \/ (J.go i H /\ ∀ x H', J.yld i H x H' -> g x (List.replicate n none ++ compS js σ) H' fun σ6 H6 => ∃ us : List (Option V), us.length = n /\ σ6 = us ++ compS js σ /\ tc σ6 H6 fun c H3 =>
    if c = true then te σ6 H3 fun y H4 => H4 D = some (.lst acc) /\ ∃ m', m' < m /\ W (i + 1) m' (acc ++ [y]) (upd H4 D (.lst (acc ++ [y]))) else ∃ m', m' < m /\ W (i + 1) m' acc H3))
def tCompT (wi : TI) (g : TG) (n : Nat) (js : List Nat) (tc : TT) (te : TE) : TE := fun σ H Q => wi σ H fun J H1 => ∀ D, H1 D = none -> CompWT J g n js tc te σ Q D H1
theorem pe_compT {X : Cx} {elt iter tg : Expr} {ifs : List Expr} {sc : Scope} {pos : Pos} {ts : List Str} {ys : List Str} {js : List Nat} {wi : TI} {g : TG} {tc : TT} {te : TE} (hc : X.calm = true) (hck : compChkT X.N X.env.scope sc ts ys js = true)
    (hi : PI X tg iter wi) (hg : ∀ cl C s H fp, PG (X.comp sc cl C (ts ++ ys) s H fp) tg g) (hf : ∀ cl C s H fp, PIf (X.comp sc cl C (ts ++ ys) s H fp) ifs tc) (he : ∀ cl C s H fp, PE (X.comp sc cl C (ts ++ ys) s H fp) elt te)
    (hs : ∀ x, foldedSetIterable iter X.env x = pure x := by intro _; rfl) : PE X (.ListComp elt [⟨tg, iter, ifs, 0⟩] sc pos) (tCompT wi g ts.length js tc te) := by
  have ck := compOkT_of hck
  intro pins s σ H Q I h
  have hfr : ∀ x, (x, NameKind.free) ∈ sc.names -> ∃ c, X.env.cells.lookup x = some c := fun x hx => I.ok.has x (.inl (ck.fre _ hx rfl))
  obtain ⟨cl, hcl, cl1, cl2⟩ := clos_ok hfr
  rw [eval_ListComp]
  refine wpAny_comprehension_free (use := none) rfl hs hcl ck.kind ck.loc (thn (hi pins s σ H _ I h) fun v s1 h1 => thn h1 fun itv s2 h2 => ?_)
  obtain ⟨it, fp, tn, J, H2, e, I2, T, st2, f2, hR⟩ := h2
  subst e
  refine wpAny_newObj_type (wpAny_newFunctionEnv ck.ncell (by intro y hy; simp at hy) (fun h1 hns hsb => ?_) ck.kind)
  dsimp only at hns hsb ⊢
  generalize hp : s2.heap.push { cls := .type "list", dict := none, data := .seq ([] : List Value).toArray } = hh at hns hsb ⊢
  have hC : hh.objs.size = s2.heap.objs.size + 1 := by rw [<- hp, Heap.size_push]
  have neD : ∀ {b : Addr}, b < s2.heap.objs.size -> b ≠ s2.heap.objs.size := fun hb => Nat.ne_of_lt hb
  have neC : ∀ {b : Addr}, b < s2.heap.objs.size -> b ≠ hh.objs.size := fun hb => by rw [hC]; exact Nat.ne_of_lt (Nat.lt_succ_of_lt hb)
  have hDC : s2.heap.objs.size ≠ hh.objs.size := by rw [hC]; exact Nat.ne_of_lt (Nat.lt_succ_self _)
  have hCle : s2.heap.objs.size <= hh.objs.size := by rw [hC]; exact Nat.le_succ _
  have old : ∀ b o, s2.heap.get? b = some o -> h1.get? b = some o := fun b o e => hsb.extBut b o (neC (Heap.lt_size e)) (Heap.get?_push_of_some _ (hp ▸ Heap.get?_push_of_some _ e))
  have hnew : h1.get? s2.heap.objs.size = some { cls := .type "list", dict := none, data := .seq ([] : List Value).toArray } := hsb.extBut _ _ hDC (Heap.get?_push_of_some _ (hp ▸ Heap.get?_push_size _ rfl))
  have fpH : ∀ b ∈ fp, ∃ o, s2.heap.get? b = some o := fun b hb => let ⟨o, e, _⟩ := T.obj 0 _ st2 b hb; ⟨o, e⟩
  have fpD : ∀ b ∈ fp, b ≠ s2.heap.objs.size := fun b hb => by obtain ⟨o, e⟩ := fpH b hb; exact neD (Heap.lt_size e)
  have fpC : ∀ b ∈ fp, b ≠ hh.objs.size := fun b hb => by obtain ⟨o, e⟩ := fpH b hb; exact neC (Heap.lt_size e)
  have fpS : ∀ b ∈ fp, b ∉ frs X.stack := fun b hb z => (List.mem_cons.mp (I2.stkSub b z)).elim (f2 b hb).2.1 (f2 b hb).2.2.1
  have hok' : (X.comp sc cl hh.objs.size (ts ++ ys) s2 H2 fp).Ok := by
    refine ⟨I2.ok.mod, ck.kind, I2.ok.glob, I2.ok.blt, hCle, fun x y c a b => I2.ok.inj x y c (cl1 x c a) (cl1 y c b), fun x hx => ?_, (fun x c z => nomatch z), I2.ok.hd, I2.ok.frames, .inl rfl, fun b hb => ⟨fpC b hb, fun x c a => (f2 b hb).2.2.2.2.1 x c (cl1 x c a)⟩,
      I2.bs, Nat.le_trans I2.ok.bsz I2.sz, fun b o e hb => ?_, fun b hb => fpS b hb, I2.stack, I2.stkFree⟩
    · have hx' : (sc.names.map fun (n, k) => if (k == NameKind.free && X.env.scope.kind == .function && X.env.kindOf n == some .cell) then (n, NameKind.cell) else (n, k)).lookup x = some .cell \/ (sc.names.map fun (n, k) => if (k == NameKind.free && X.env.scope.kind == .function && X.env.kindOf n == some .cell) then (n, NameKind.cell) else (n, k)).lookup x = some .free := hx
      rcases hx' with z | z
      · rcases relabel_inv z with q | ⟨_, q⟩
        · exact absurd rfl (ck.ncell _ (PySem.mem_of_lookup q))
        · exact cl2 x (PySem.mem_of_lookup q)
      · rcases relabel_inv z with q | ⟨q, _⟩
        · exact cl2 x (PySem.mem_of_lookup q)
        · cases q
    · rcases (f2 b hb).2.2.2.1 with z | z
      · exact I2.ok.noex b o e z
      · exact absurd (Nat.lt_of_lt_of_le (Heap.lt_size e) (Nat.le_trans I2.ok.bsz z)) (Nat.lt_irrefl _)
  have Iin : ∀ tk : Nat, Inv (X.comp sc cl hh.objs.size (ts ++ ys) s2 H2 fp) [] (List.replicate ts.length none ++ compS js σ) (upd H2 s2.heap.objs.size (.lst [])) { s2 with heap := h1, toks := tk } := fun tk => by
    refine ⟨hok', rfl, I2.bare, Un.laid old (Nat.le_refl _) I2.fresh, ⟨_, hns, fun i x v e1 e2 e3 => ?_⟩, fun x c e => ?_, ?_, fun x c e => ?_, fun p hp => absurd (show p ∈ ([] : List (Addr × Obj)) from hp) (by simp), I2.hok.laid old (Nat.le_refl _) ⟨Nat.zero_le _, [], 0, .nil, hnew⟩, ?_⟩
    · by_cases hik : i < ts.length
      · rw [List.getElem?_append_left (by rw [List.length_replicate]; exact hik), List.getElem?_replicate, if_pos hik] at e2
        cases e2
      · obtain ⟨k, rfl⟩ : ∃ k, i = ts.length + k := ⟨i - ts.length, by omega⟩
        have e1' : ys[k]? = some x := by
          have : (ts ++ ys)[ts.length + k]? = some x := e1
          rw [List.getElem?_append_right (by omega)] at this
          rw [<- this]
          congr 1
          omega
        have e2' : (compS js σ)[k]? = some (some v) := by
          rw [List.getElem?_append_right (by rw [List.length_replicate]; omega), List.length_replicate] at e2
          rw [<- e2]
          congr 1
          omega
        unfold compS at e2'
        rw [List.getElem?_map] at e2'
        have q := congrArg (fun l => l[k]?) ck.ysj
        simp only [List.getElem?_map, e1', Option.map_some] at q
        cases hj : js[k]? with
        | none => rw [hj] at q; cases q
        | some j =>
          rw [hj] at q e2'
          have q1 : X.N[j]? = some x := (Option.some.inj q).symm
          have q2 : σ[j]? = some (some v) := by
            have z : (σ[j]?).join = some v := Option.some.inj e2'
            cases hz : σ[j]? with
            | none => rw [hz] at z; cases z
            | some y => rw [hz] at z; exact congrArg some z
          have hf' := ck.ysf x (List.mem_of_getElem? e1')
          have hcell := ck.fre _ (PySem.mem_of_lookup hf') rfl
          obtain ⟨m2, hn2, hl2⟩ := I2.loc
          obtain ⟨u, ru, lk⟩ := hl2 j x v q1 q2 (.inr (.inl hcell))
          refine ⟨u, ru, ?_⟩
          rcases lk with ⟨kk, _⟩ | ⟨_, c, ec, ic⟩
          · have kk' : X.env.scope.names.lookup x = some .local := kk
            have hcell' : X.env.scope.names.lookup x = some .cell := hcell
            rw [hcell'] at kk'; cases kk'
          · obtain ⟨c', ec'⟩ := cl2 x (PySem.mem_of_lookup hf')
            have : c' = c := Option.some.inj ((cl1 x c' ec').symm.trans ec)
            subst this
            refine .inr ⟨relabel_free hf', c', ec', ?_⟩
            obtain ⟨o, ho, hd⟩ := ic
            exact ⟨o, old _ o ho, hd⟩
    · obtain ⟨v, o, ho, hd⟩ := I2.cell x c (cl1 x c e)
      exact ⟨v, o, old _ o ho, hd⟩
    · show upd H2 s2.heap.objs.size _ hh.objs.size = none
      rw [upd_ne (Ne.symm hDC)]
      exact I2.hok.fresh hCle
    · obtain ⟨v, o, ho, hd⟩ := I2.cell x c (cl1 x c e)
      rw [upd_ne (neD (Heap.lt_size ho))]
      exact I2.freeC x c (cl1 x c e)
    · show (List.replicate ts.length none ++ compS js σ).length = (ts ++ ys).length
      have q := congrArg List.length ck.ysj
      simp only [List.length_map] at q
      unfold compS
      simp only [List.length_append, List.length_replicate, List.length_map]
      omega
  have st1 : tn 0 h1 := T.keep _ _ _ st2 fun b hb o e => old b o e
  obtain ⟨W, ⟨m0, w0⟩, turn⟩ := hR s2.heap.objs.size I2.fresh
  have fpok : ∀ {H' : Hp}, (∀ b ∈ fp, H' b = none) -> ∀ b ∈ fp, FpOk (X.comp sc cl hh.objs.size (ts ++ ys) s2 H2 fp) [] H' b := fun hn b hb =>
    ⟨hn b hb, fpC b hb, fpS b hb, .inl hb, fun x c a => (f2 b hb).2.2.2.2.1 x c (cl1 x c a), fun p hp => absurd (show p ∈ ([] : List (Addr × Obj)) from hp) (by simp)⟩
  have loop : ∀ s3 : Shared, s3 = { s2 with heap := h1, toks := s2.toks + ([] : List (Str × Value)).length } ->
      codeAny (model X.prog X.w) X.A (.compLoop (.ListComp elt [⟨tg, iter, ifs, 0⟩] sc pos) 0 (.ref it) (.ref s2.heap.objs.size) (compEnvC sc cl hh.objs.size X.env))
        (compPost (model X.prog X.w) X.A X.xe none (EP X pins σ Q) (.ref s2.heap.objs.size) hh.objs.size) s3 := by
    rintro s3 rfl
    refine comp_turns (fun n s' => ∃ i acc H', Inv (X.comp sc cl hh.objs.size (ts ++ ys) s2 H2 fp) [] (List.replicate ts.length none ++ compS js σ) H' s' /\ tn i s'.heap /\ (∀ b ∈ fp, H' b = none) /\ W i n acc H') ?_ m0
      ⟨0, [], _, Iin _, st1, fun b hb => by rw [upd_ne (fpD b hb)]; exact (f2 b hb).1, w0⟩
    rintro n s3 ⟨i, acc, H3, I3, st3, fr3, w3⟩
    obtain ⟨hD, hz, alt⟩ := turn i n acc H3 w3
    rcases alt with ⟨stop, q⟩ | ⟨go, step⟩
    · refine thn (T.done (X.comp sc cl hh.objs.size (ts ++ ys) s2 H2 fp) rfl rfl rfl hc i [] s3 _ H3 _ I3 (fpok fr3) st3 stop) fun r s4 ⟨hr, I4⟩ => ?_
      subst hr
      obtain ⟨m, hn, _⟩ := id I4.loc
      refine ⟨m, hn, fun h' sb => ⟨.ref s2.heap.objs.size, H3, ?_, rfl, q⟩⟩
      have ltC : ∀ b o, s2.heap.get? b = some o -> b ≠ hh.objs.size := fun b o e => neC (Heap.lt_size e)
      have b4 : Un (frs X.stack) fp H2 H3 s2.heap s4.heap := I4.base
      refine I2.call' (s' := { s4 with heap := h' }) (ch := fp) I4.os ⟨fun b o e n1 n2 n3 => (sb.2 b (ltC b o e)).trans (b4.keep b o e n1 n2 n3), fun b o e n1 n2 n3 => ?_, b4.free, fun b o e n1 => ?_, b4.tups, b4.frzs, b4.tbls⟩ (fun b ob e => ?_) I4.bare
        (fun b hb => ⟨(f2 b hb).2.2.2.1, (f2 b hb).2.1, (f2 b hb).2.2.2.2.1, (f2 b hb).2.2.2.2.2⟩)
      · obtain ⟨sl, e1⟩ := b4.slot b o e n1 n2 n3
        exact ⟨sl, (sb.2 b (ltC b o e)).trans e1⟩
      · obtain ⟨o', e1⟩ := b4.there b o e n1
        exact ⟨o', (sb.2 b (ltC b o e)).trans e1⟩
      · have hfree : H3 hh.objs.size = none := I4.free
        refine (I4.hok b ob e).stay (fun c w' hc' q' => (sb.2 c ?_).trans q') (fun _ q' => q') fun _ _ q' => q'
        rintro rfl
        rcases hc' with rfl | hc'
        · rw [hfree] at e; cases e
        · rw [hfree] at hc'; cases hc'
    · refine thn (T.item (X.comp sc cl hh.objs.size (ts ++ ys) s2 H2 fp) rfl rfl rfl hc i [] s3 _ H3 _ I3 (fpok fr3) st3 go) fun r s4 ⟨u, hr, h4⟩ => ?_
      subst hr
      refine thn h4 fun _ s5 ⟨x, H5, I5, r5, y5, st5, fr5⟩ => ?_
      have I5' := I5.pinned (fpok fr5) (T.obj _ _ st5)
      refine thn (hg _ _ _ _ _ _ s5 _ H5 x _ _ I5' r5 (step x H5 y5)) fun _ s6 ⟨σ6, H6, I6, us, hul, hus, q6⟩ => ?_
      subst hus
      have again : ∀ {H7 : Hp} {s7 : Shared} {m' : Nat} {acc' : List V}, Inv (X.comp sc cl hh.objs.size (ts ++ ys) s2 H2 fp) ([] ++ pinsAt fp s5.heap) (us ++ compS js σ) H7 s7 -> m' < n -> W (i + 1) m' acc' H7 ->
          ∃ m, m < n /\ ∃ i acc H', Inv (X.comp sc cl hh.objs.size (ts ++ ys) s2 H2 fp) [] (List.replicate ts.length none ++ compS js σ) H' s7 /\ tn i s7.heap /\ (∀ b ∈ fp, H' b = none) /\ W i m acc H' := fun {H7 s7 m' acc'} I7 hm w7 => by
        refine ⟨m', hm, i + 1, acc', H7, (I7.unpinned).weak (by rw [List.length_append, List.length_append, List.length_replicate, hul]) (fun k v e => ?_), T.keep _ _ _ st5 fun b hb o e => (I7.pin (b, o) (List.mem_append_right _ (List.mem_append_right _ (mem_pinsAt hb e)))).1, fun b hb => ?_, w7⟩
        · by_cases hk : k < ts.length
          · rw [List.getElem?_append_left (by rw [List.length_replicate]; exact hk), List.getElem?_replicate, if_pos hk] at e
            cases e
          · rw [List.getElem?_append_right (by rw [List.length_replicate]; omega), List.length_replicate] at e
            rw [List.getElem?_append_right (by omega), hul]
            exact e
        · obtain ⟨o, e, d⟩ := T.obj _ _ st5 b hb
          exact (I7.pin (b, o) (List.mem_append_right _ (List.mem_append_right _ (mem_pinsAt hb e)))).2.1
      refine thn (hf _ _ _ _ _ _ s6 _ H6 _ I6 q6) fun ok s7 ⟨H7, I7, q7⟩ => ?_
      cases ok with
      | false =>
        obtain ⟨m', hm, w7⟩ := q7
        exact again I7 hm w7
      | true =>
        refine thn (he _ _ _ _ _ _ s7 _ H7 _ I7 q7) fun uy s8 ⟨y, H8, I8, r8, hD8, m', hm, w8⟩ => ?_
        refine thn (mt_append (X := X.comp sc cl hh.objs.size (ts ++ ys) s2 H2 fp) _ s8 _ H8 (.ref s2.heap.objs.size) [y] (.ref s2.heap.objs.size) [uy] (fun _ H9 => W (i + 1) m' (acc ++ [y]) H9) I8 rfl (.cons r8 .nil) ⟨_, acc, y, rfl, rfl, hD8, hz, w8⟩) fun _ s9 ⟨_, H9, I9, _, q9⟩ => ?_
        exact again I9 hm q9
  exact codeAny_compStart_list (loop _ rfl) (T.self _ 0 _ _ _ st1 (loop _ rfl))
theorem qe_compT {X : Cx} {elt iter tg : Expr} {ifs : List Expr} {sc : Scope} {pos : Pos} {ts : List Str} {ys : List Str} {js : List Nat} {wi : TI} {g : TG} {tc : TT} {te : TE} (hc : X.calm = true) (hck : compChkT X.N X.env.scope sc ts ys js = true)
    (hi : QI X tg iter wi) (hg : ∀ cl C s H fp, QG (X.comp sc cl C (ts ++ ys) s H fp) tg g) (hf : ∀ cl C s H fp, QIf (X.comp sc cl C (ts ++ ys) s H fp) ifs tc) (he : ∀ cl C s H fp, QE (X.comp sc cl C (ts ++ ys) s H fp) elt te)
    (hs : ∀ x, foldedSetIterable iter X.env x = pure x := by intro _; rfl) : QE X (.ListComp elt [⟨tg, iter, ifs, 0⟩] sc pos) (tCompT wi g ts.length js tc te) :=
  ⟨pe_compT hc hck hi.h (fun cl C s H fp => (hg cl C s H fp).h) (fun cl C s H fp => (hf cl C s H fp).h) (fun cl C s H fp => (he cl C s H fp).h) hs⟩
section
variable {K : PySem.W.Frag} {a : Addr} {xs ys : List V} {js : List Nat} {g : TG} {n : Nat} {te : TE} {σ : St} {Q : VK} {D : Addr} {H1 : Hp}
end
end L2
namespace L2
open PySem PySem.Spec PyProof.Rows
theorem lri_nolen : typeLookup (.type "list_reverseiterator") "__len__" = pure none := by rw [typeLookup_type, builtinLookup_eq_fast]; kernel_rfl
theorem lri_hint : typeLookup (.type "list_reverseiterator") "__length_hint__" = pure (some (.builtin "list_reverseiterator.__length_hint__")) := by rw [typeLookup_type, builtinLookup_eq_fast]; kernel_rfl
section
variable {prog : Program} {w : World} {A : Around} {E : Value -> Shared -> Prop} {s : Shared}
theorem rev_extend {R : Result -> Shared -> Prop} {it l : Addr} {items : Array Value} (hh : A.handled = none) (hi : s.heap.IsRevIter it l ((items.size : Int) - 1)) (hl : s.heap.IsList l items) (nl : l ≠ it) (S : Addr) (nS : S ≠ it) (nSl : S ≠ l) (c0 : Nat) (hS : s.heap.get? S = some { cls := .type "list", data := .seq #[] c0 })
    (hR : ∀ h' tk acc c', (∀ b o, b ≠ S -> b ≠ it -> s.heap.get? b = some o -> h'.get? b = some o) -> h'.get? S = some { cls := .type "list", dict := none, data := .seq acc c', slots := #[] } -> ItemsOf (fun i v => items[items.size - 1 - i]? = some v) acc items.size -> R (.ok (.ret .none)) { s with heap := h', toks := tk })
    (hn : items.size <= sizeLine) : wpAny (model prog w) A.in1 (Builtin.List.listExtendWith (.ref S) (.ref it) .none) (fun fin s' => match fin with | .done f => R (.ok f) s' | .again c' => c'.quiet = true /\ codeAny (model prog w) A c' R s') (fun e s' => R (.error e) s') s := by
  have W := (Walks.listRev (prog := prog) (w := w) (A := A.in1) hh it l nl items).toS
  have st : (0 : Nat) <= items.size /\ s.heap.IsRevIter it l ((items.size : Int) - 1 - ((0 : Nat) : Int)) /\ s.heap.IsList l items := ⟨Nat.zero_le _, by simpa using hi, hl⟩
  have same : Builtin.List.listSameRef (.ref S) (.ref it) = false := by simp [Builtin.List.listSameRef, nS]
  unfold Builtin.List.listExtendWith
  refine wpAny_bind (wpAny_typeOf hi.typeIs ?_)
  rw [if_neg (by rw [same]; decide)]
  refine wpAny_bind (wpAny_pyIter_revIter hi (wpAny_bind (wpAny_holding ?_)))
  unfold Builtin.List.listLengthHint
  refine wpAny_bind (wpAny_specialOf hi.typeIs lri_nolen (show wpAny _ A.in1 (specialOf (Value.ref it) (Str.ofString "__length_hint__") >>= _) _ _ _ from wpAny_bind (wpAny_specialOf hi.typeIs lri_hint ?_)))
  generalize hid : ("list_reverseiterator.__length_hint__" : String) = id0
  wp_delta
  rw [show splitId id0 = some ("list_reverseiterator", "__length_hint__") from by subst hid; decide +kernel]
  subst hid
  refine wpAny_bind (wpAny_isInstance (b := true) hi.typeIs (by rw [isSubtype_type]; kernel_rfl) (wpAny_pure ?_))
  rw [if_neg (by decide)]
  refine wpAny_pure ⟨plainId_quiet F.plain_extend_loop _, codeAny_extend_loopS W hn S (by simp [nS, nSl]) .none items.size 0 _ #[] c0 rfl (Nat.zero_le _) st hS (ItemsOf.nil _) fun s' acc c' hm hS' ha => ?_⟩
  rw [Moved.eq_with hm]
  refine hR s'.heap s'.toks acc c' (fun b o hb hbi e => hm.heap b o (fun z => ?_) e) hS' ha
  rcases List.mem_cons.mp z with z | z
  · exact hb z
  · exact hbi (List.mem_singleton.mp z)
theorem rev_list {it l : Addr} {items : Array Value} {Q : Value -> Shared -> Prop} (hh : A.handled = none) (hi : s.heap.IsRevIter it l ((items.size : Int) - 1)) (hl : s.heap.IsList l items) (nl : l ≠ it)
    (q : ∀ h' tk acc c', (∀ b o, b ≠ it -> s.heap.get? b = some o -> h'.get? b = some o) -> h'.get? s.heap.objs.size = some { cls := .type "list", dict := none, data := .seq acc c', slots := #[] } -> ItemsOf (fun i v => items[items.size - 1 - i]? = some v) acc items.size -> Q (.ref s.heap.objs.size) { s with heap := h', toks := tk })
    (hn : items.size <= sizeLine) : wpAny (model prog w) A (call (.type "list") [.ref it]) Q E s := by
  refine callType_codes (Q₁ := fun obj s₁ => obj = .ref s.heap.objs.size /\ s₁ = { s with heap := s.heap.push { cls := .type "list", data := .seq #[] } }) F.called_list (F.typeCall_list_1 _) F.entry_list_init (code_list_new _ ⟨rfl, rfl⟩) fun obj s₁ h₁ => ?_
  obtain ⟨rfl, rfl⟩ := h₁
  have hS : (s.heap.push { cls := .type "list", data := .seq #[] }).get? s.heap.objs.size = some { cls := .type "list", data := .seq #[] } := Heap.get?_push_size _ rfl
  have li : it < s.heap.objs.size := let ⟨_, e, _⟩ := hi; Heap.lt_size e
  have ll : l < s.heap.objs.size := let ⟨_, e, _⟩ := hl; Heap.lt_size e
  refine ⟨⟨_, hS, rfl⟩, F.args_list_init_2 _ _, ?_⟩
  show wpAny _ _ (do let old <- Builtin.List.listItems (.ref s.heap.objs.size); Builtin.List.listUpdate (.ref s.heap.objs.size) (fun _ => #[]); letGo old.toList.reverse; Builtin.List.listExtendWith (.ref s.heap.objs.size) (.ref it) .none) _ _ _
  refine wpAny_bind ?_
  unfold Builtin.List.listItems
  refine wpAny_bind (wpAny_seqItems hS rfl (wpAny_pure (show wpAny _ _ (updateSeq s.heap.objs.size (fun _ => #[]) >>= fun _ => letGo (#[] : Array Value).toList.reverse >>= fun _ => Builtin.List.listExtendWith (.ref s.heap.objs.size) (.ref it) .none) _ _ _ from wpAny_bind (wpAny_updateSeq hS rfl (wpAny_bind (wpAny_letGo ?_))))))
  have hS2 := Heap.get?_update_self (Obj.mapSeq (fun _ => (#[] : Array Value))) hS rfl
  have ot : ∀ b o, b ≠ s.heap.objs.size -> s.heap.get? b = some o -> ((s.heap.push { cls := .type "list", data := .seq #[] }).update s.heap.objs.size (Obj.mapSeq (fun _ => (#[] : Array Value)))).get? b = some o := fun b o hb e => (Heap.get?_update_other _ _ (Ne.symm hb)).trans (Heap.get?_push_of_some _ e)
  have ni : it ≠ s.heap.objs.size := Nat.ne_of_lt li
  have nl2 : l ≠ s.heap.objs.size := Nat.ne_of_lt ll
  refine rev_extend (A := A.in1) hh (hi.at fun o e => ot it o ni e) (hl.at fun o e => ot l o nl2 e) nl _ (Ne.symm ni) (Ne.symm nl2) _ hS2 (fun h' tk acc c' hk hS' ha => ⟨rfl, q h' tk acc c' (fun b o hb e => ?_) hS' ha⟩) hn
  have nb : b ≠ s.heap.objs.size := Nat.ne_of_lt (Heap.lt_size e)
  exact hk b o nb hb (ot b o nb e)
end
section
variable {X : Cx} {e : Expr} {te : TE} {p1 p2 q1 q2 : Pos}
def tRevL (K : PySem.W.Frag) (te : TE) : TE := fun σ H Q => te σ H fun x H1 => ∃ l ys, x = .ref l /\ SqL K H1 l ys /\ ∀ r, H1 r = none -> Q (.ref r) (upd H1 r (.lst ys.reverse))
theorem rev_items {vs : List Value} {acc : Array Value} (h : ItemsOf (fun i v => vs.toArray[vs.toArray.size - 1 - i]? = some v) acc vs.toArray.size) : acc.toList = vs.reverse := by
  obtain ⟨h1, h2⟩ := h
  have hz : vs.toArray.size = vs.length := by simp
  rw [hz] at h1 h2
  refine List.ext_getElem? fun i => ?_
  by_cases hi : i < vs.length
  · have e : acc.toList[i]? = some (acc[i]'(by omega)) := by simp [h1, hi]
    have e2 := h2 i (acc[i]'(by omega)) (by simp [h1, hi])
    rw [e, List.getElem?_reverse hi, <- e2]
    simp
  · rw [List.getElem?_eq_none (by simp [h1]; omega), List.getElem?_eq_none (by simp; omega)]
theorem pe_listRev (hc : X.calm = true) (g1 : Gl X "list") (m1 : X.mg "list" = none) (g2 : Gl X "reversed") (m2 : X.mg "reversed" = none) (he : PE X e te)
    (hs2 : starEach [e] X.env = [(false, eval e X.env)] := by rfl) (hs1 : starEach [.Call (.Name "reversed" p2) [e] [] q2] X.env = [(false, eval (.Call (.Name "reversed" p2) [e] [] q2) X.env)] := by rfl) :
    PE X (.Call (.Name "list" p1) [.Call (.Name "reversed" p2) [e] [] q2] [] q1) (tRevL X.K te) := by
  intro pins s σ H Q I h
  refine Call_ (ld_blt I g1 m1 PyProof.Rows.boot_list (PyProof.Rows.callWith_type1 ?_ hs1 rfl))
  rw [hs1]
  show wpAny _ _ (spliced ((false, eval (.Call (.Name "reversed" p2) [e] [] q2) X.env) :: backTo q1 [])) _ _ s
  refine Calls.spliced_cons (Call_ (ld_blt I g2 m2 boot_reversed (PyProof.Rows.callWith_type1 ?_ hs2 rfl)))
  rw [hs2]
  show wpAny _ _ (spliced ((false, eval e X.env) :: backTo q2 [])) _ _ s
  refine Calls.spliced_cons (thn (he pins s σ H _ I h) fun u s1 ⟨x, H1, I1, r1, l, ys, ex, hq, k⟩ => ?_)
  subst ex
  cases r1
  refine Calls.spliced_nil ?_
  obtain ⟨vs, rv, pl, hz⟩ := I1.list hq
  have hl := pl.isList
  have hlen := rv.length
  have ll : l < s1.heap.objs.size := let ⟨_, e, _⟩ := hl; Heap.lt_size e
  refine call_reversed_list hl (Calls.spliced_nil ?_)
  have nl : l ≠ s1.heap.objs.size := Nat.ne_of_lt ll
  refine rev_list (items := vs.toArray) (I1.ok.hd hc) ⟨_, Heap.get?_push_size _ rfl, rfl, rfl⟩ (hl.at fun o e => Heap.get?_push_of_some _ e) nl (fun h' tk acc c' hk hS ha => ?_) (by simp; omega)
  have e := rev_items ha
  have sz : (s1.heap.push (revObj l ((vs.toArray.size : Int) - 1))).objs.size = s1.heap.objs.size + 1 := Heap.size_push ..
  rw [sz] at hS ⊢
  have fr : H1 (s1.heap.objs.size + 1) = none := I1.hok.fresh (Nat.le_succ _)
  refine ⟨.ref (s1.heap.objs.size + 1), _, I1.laid (t' := tk) (fun b u eb => hk b u (Nat.ne_of_lt (Heap.lt_size eb)) (Heap.get?_push_of_some _ eb)) (Nat.le_succ _) (show ObjOk X.prog X.w _ h' _ (.lst ys.reverse) from ⟨by rw [List.length_reverse]; omega, vs.reverse, c', rv.reverse, ?_⟩), rfl, k _ fr⟩
  rw [hS, <- e]
theorem qe_listRev (hc : X.calm = true) (g1 : Gl X "list") (m1 : X.mg "list" = none) (g2 : Gl X "reversed") (m2 : X.mg "reversed" = none) (he : QE X e te)
    (hs2 : starEach [e] X.env = [(false, eval e X.env)] := by rfl) (hs1 : starEach [.Call (.Name "reversed" p2) [e] [] q2] X.env = [(false, eval (.Call (.Name "reversed" p2) [e] [] q2) X.env)] := by rfl) :
    QE X (.Call (.Name "list" p1) [.Call (.Name "reversed" p2) [e] [] q2] [] q1) (tRevL X.K te) := ⟨pe_listRev hc g1 m1 g2 m2 he.h hs2 hs1⟩
end
end L2
namespace TM
open PySem L2
inductive Tm where
  | num (n : Int)
  | text (z : Str)
  | row
  | mark
  | val (k : Int) (z : Str)
  | call (w : Str) (ts : List Tm)
def inner : Tm -> List Tm
  | .call _ ts => ts
  | _ => []
mutual
def parts : Tm -> Int
  | .call _ ts => 1 + partss ts
  | .num _ => 1
  | .text _ => 1
  | .row => 1
  | .mark => 1
  | .val _ _ => 1
def partss : List Tm -> Int
  | [] => 0
  | t :: ts => parts t + partss ts
end
mutual
def depth : Tm -> Nat
  | .call _ ts => 1 + depths ts
  | .num _ => 1
  | .text _ => 1
  | .row => 1
  | .mark => 1
  | .val _ _ => 1
def depths : List Tm -> Nat
  | [] => 0
  | t :: ts => max (depth t) (depths ts)
end
abbrev Pr := Int × Str
def addTo (acc : List Pr) (p : Pr) : List Pr := if p ∈ acc then acc else acc ++ [p]
def uni (acc ps : List Pr) : List Pr := ps.foldl addTo acc
mutual
def named : Tm -> List Pr
  | .val k z => [(k, z)]
  | .call _ ts => nameds [] ts
  | .num _ => []
  | .text _ => []
  | .row => []
  | .mark => []
def nameds (acc : List Pr) : List Tm -> List Pr
  | [] => acc
  | t :: ts => nameds (uni acc (named t)) ts
end
theorem partss_eq : ∀ ts : List Tm, partss ts = (ts.map parts).sum
  | [] => by unfold partss; rfl
  | t :: ts => by unfold partss; rw [List.map_cons, List.sum_cons, partss_eq ts]
theorem parts_eq (t : Tm) : parts t = 1 + ((inner t).map parts).sum := by
  cases t with
  | call w ts => rw [parts, partss_eq]; rfl
  | _ => rw [parts]; rfl
theorem depths_mem : ∀ {ts : List Tm} {t : Tm}, t ∈ ts -> depth t <= depths ts
  | [], _, h => nomatch h
  | x :: ts, t, h => by
    unfold depths
    rcases List.mem_cons.mp h with rfl | h
    · omega
    · have := depths_mem h; omega
theorem depths_is : ∀ {ts : List Tm}, ts ≠ [] -> ∃ t ∈ ts, depth t = depths ts
  | [], h => absurd rfl h
  | x :: ts, _ => by
    by_cases h : ts = []
    · subst h
      exact ⟨x, by simp, by unfold depths; unfold depths; omega⟩
    · obtain ⟨t, ht, e⟩ := depths_is h
      by_cases hl : depth x <= depth t
      · exact ⟨t, List.mem_cons_of_mem _ ht, by unfold depths; omega⟩
      · exact ⟨x, List.mem_cons_self, by unfold depths; omega⟩
theorem depth_eq (t : Tm) : depth t = 1 + depths (inner t) := by
  cases t with
  | call w ts => rw [depth]; rfl
  | _ => rw [depth]; show 1 = 1 + depths []; rw [depths]
theorem depth_inner {t u : Tm} (h : u ∈ inner t) : depth u + 1 <= depth t := by
  rw [depth_eq t]
  have := depths_mem h
  omega
theorem depth_pos (t : Tm) : 1 <= depth t := by rw [depth_eq]; omega
theorem depth_max {ts : List Tm} {M : Int} (h1 : M ∈ ts.map fun t => (depth t : Int)) (h2 : ∀ a ∈ ts.map fun t => (depth t : Int), a <= M) : M = (depths ts : Int) := by
  obtain ⟨t, ht, rfl⟩ := List.mem_map.mp h1
  have hne : ts ≠ [] := fun z => by rw [z] at ht; cases ht
  obtain ⟨u, hu, e⟩ := depths_is hne
  have a1 := h2 _ (List.mem_map.mpr ⟨u, hu, rfl⟩)
  have a2 := depths_mem ht
  omega
theorem nameds_eq : ∀ (ts : List Tm) (acc : List Pr), nameds acc ts = ts.foldl (fun a t => uni a (named t)) acc
  | [], acc => by unfold nameds; rfl
  | t :: ts, acc => by unfold nameds; rw [nameds_eq ts, List.foldl_cons]
def isVal : Tm -> Bool
  | .val _ _ => true
  | _ => false
theorem named_eq {t : Tm} (h : isVal t = false) : named t = (inner t).foldl (fun a t => uni a (named t)) [] := by
  cases t with
  | call w ts => rw [named, nameds_eq]; rfl
  | val k z => cases h
  | _ => rw [named]; rfl
def SameT (H H' : Hp) : Prop := ∀ b xs, H b = some (.tup xs) -> H' b = some (.tup xs)
theorem sameT {H H' : Hp} (e : Same H H') : SameT H H' := fun b xs h => e b _ h
theorem SameT.refl (H : Hp) : SameT H H := fun _ _ h => h
theorem SameT.trans {H H1 H2 : Hp} (a : SameT H H1) (b : SameT H1 H2) : SameT H H2 := fun c xs h => b c xs (a c xs h)
theorem sameT_lst {H : Hp} {r : Addr} {xs ys : List V} (h : H r = some (.lst xs)) : SameT H (upd H r (.lst ys)) := fun b zs q => by
  rw [upd_ne (ne_of q h (fun z => nomatch z))]
  exact q
mutual
def TmIs (H : Hp) : Tm -> V -> Prop
  | .num n, v => ∃ a, v = .ref a /\ H a = some (.tup [.str "num", .int n])
  | .text z, v => ∃ a, v = .ref a /\ H a = some (.tup [.str "text", .str z])
  | .row, v => ∃ a, v = .ref a /\ H a = some (.tup [.str "row"])
  | .mark, v => ∃ a, v = .ref a /\ H a = some (.tup [.str "mark"])
  | .val k z, v => ∃ a, v = .ref a /\ H a = some (.tup [.str "of", .int k, .str z])
  | .call w ts, v => ∃ a b vs, v = .ref a /\ H a = some (.tup [.str "call", .str w, .ref b]) /\ H b = some (.tup vs) /\ vs.length <= 1000 /\ TmsIs H ts vs
def TmsIs (H : Hp) : List Tm -> List V -> Prop
  | [], vs => vs = []
  | t :: ts, vs => ∃ v r, vs = v :: r /\ TmIs H t v /\ TmsIs H ts r
end
mutual
theorem TmIs.same {H H' : Hp} (e : SameT H H') : ∀ (t : Tm) {v : V}, TmIs H t v -> TmIs H' t v
  | .num n, v, h => by unfold TmIs at h ⊢; obtain ⟨a, x, y⟩ := h; exact ⟨a, x, e _ _ y⟩
  | .text z, v, h => by unfold TmIs at h ⊢; obtain ⟨a, x, y⟩ := h; exact ⟨a, x, e _ _ y⟩
  | .row, v, h => by unfold TmIs at h ⊢; obtain ⟨a, x, y⟩ := h; exact ⟨a, x, e _ _ y⟩
  | .mark, v, h => by unfold TmIs at h ⊢; obtain ⟨a, x, y⟩ := h; exact ⟨a, x, e _ _ y⟩
  | .val k z, v, h => by unfold TmIs at h ⊢; obtain ⟨a, x, y⟩ := h; exact ⟨a, x, e _ _ y⟩
  | .call w ts, v, h => by
    unfold TmIs at h ⊢
    obtain ⟨a, b, vs, x, y, z, n, q⟩ := h
    exact ⟨a, b, vs, x, e _ _ y, e _ _ z, n, TmsIs.same e ts q⟩
theorem TmsIs.same {H H' : Hp} (e : SameT H H') : ∀ (ts : List Tm) {vs : List V}, TmsIs H ts vs -> TmsIs H' ts vs
  | [], vs, h => by unfold TmsIs at h ⊢; exact h
  | t :: ts, vs, h => by
    unfold TmsIs at h ⊢
    obtain ⟨v, r, x, y, z⟩ := h
    exact ⟨v, r, x, TmIs.same e t y, TmsIs.same e ts z⟩
end
theorem TmsIs.len {H : Hp} : ∀ {ts : List Tm} {vs : List V}, TmsIs H ts vs -> ts.length = vs.length
  | [], vs, h => by unfold TmsIs at h; subst h; rfl
  | t :: ts, vs, h => by
    unfold TmsIs at h
    obtain ⟨v, r, rfl, _, z⟩ := h
    rw [List.length_cons, List.length_cons, TmsIs.len z]
theorem TmsIs.get {H : Hp} : ∀ {ts : List Tm} {vs : List V} {i : Nat} {v : V}, TmsIs H ts vs -> vs[i]? = some v -> ∃ t, ts[i]? = some t /\ TmIs H t v
  | [], vs, i, v, h, e => by unfold TmsIs at h; subst h; simp at e
  | t :: ts, vs, 0, v, h, e => by
    unfold TmsIs at h
    obtain ⟨u, r, rfl, y, z⟩ := h
    simp at e
    subst e
    exact ⟨t, rfl, y⟩
  | t :: ts, vs, i + 1, v, h, e => by
    unfold TmsIs at h
    obtain ⟨u, r, rfl, y, z⟩ := h
    obtain ⟨x, hx, q⟩ := TmsIs.get (i := i) z (by simpa using e)
    exact ⟨x, by simpa using hx, q⟩
def IsP (H : Hp) (p : Pr) (v : V) : Prop := ∃ a, v = .ref a /\ H a = some (.tup [.int p.1, .str p.2])
def IsPs (H : Hp) : List Pr -> List V -> Prop
  | [], vs => vs = []
  | p :: ps, vs => ∃ v r, vs = v :: r /\ IsP H p v /\ IsPs H ps r
theorem IsP.same {H H' : Hp} (e : SameT H H') {p : Pr} {v : V} (h : IsP H p v) : IsP H' p v := by
  obtain ⟨a, x, y⟩ := h
  exact ⟨a, x, e _ _ y⟩
theorem IsPs.same {H H' : Hp} (e : SameT H H') : ∀ {ps : List Pr} {vs : List V}, IsPs H ps vs -> IsPs H' ps vs
  | [], _, h => h
  | _ :: _, _, ⟨v, r, x, y, z⟩ => ⟨v, r, x, y.same e, IsPs.same e z⟩
theorem IsPs.len {H : Hp} : ∀ {ps : List Pr} {vs : List V}, IsPs H ps vs -> ps.length = vs.length
  | [], vs, h => by cases h; rfl
  | p :: ps, vs, ⟨v, r, x, _, z⟩ => by subst x; rw [List.length_cons, List.length_cons, IsPs.len z]
theorem IsPs.get {H : Hp} : ∀ {ps : List Pr} {vs : List V} {i : Nat} {v : V}, IsPs H ps vs -> vs[i]? = some v -> ∃ p, ps[i]? = some p /\ IsP H p v
  | [], vs, i, v, h, e => by cases h; simp at e
  | p :: ps, vs, 0, v, ⟨u, r, x, y, z⟩, e => by subst x; simp at e; subst e; exact ⟨p, rfl, y⟩
  | p :: ps, vs, i + 1, v, ⟨u, r, x, y, z⟩, e => by
    subst x
    obtain ⟨q, hq, w⟩ := IsPs.get (i := i) z (by simpa using e)
    exact ⟨q, by simpa using hq, w⟩
theorem IsPs.app {H : Hp} : ∀ {ps qs : List Pr} {vs us : List V}, IsPs H ps vs -> IsPs H qs us -> IsPs H (ps ++ qs) (vs ++ us)
  | [], _, _, _, h, g => by cases h; exact g
  | p :: ps, qs, _, us, ⟨v, r, x, y, z⟩, g => by subst x; exact ⟨v, r ++ us, rfl, y, IsPs.app z g⟩
theorem IsPs.one {H : Hp} {p : Pr} {v : V} (h : IsP H p v) : IsPs H [p] [v] := ⟨v, [], rfl, h, rfl⟩
theorem uni_len : ∀ (ps acc : List Pr), (uni acc ps).length <= acc.length + ps.length
  | [], acc => by show acc.length <= acc.length + 0; omega
  | p :: ps, acc => by
    have h1 := uni_len ps (addTo acc p)
    have h2 : (addTo acc p).length <= acc.length + 1 := by
      unfold addTo
      split
      · omega
      · rw [List.length_append]; simp
    show (uni (addTo acc p) ps).length <= _
    rw [List.length_cons]
    omega
mutual
theorem parts_pos : ∀ t : Tm, 1 <= parts t
  | .call w ts => by rw [parts]; have := partss_nn ts; omega
  | .num _ => by rw [parts]; omega
  | .text _ => by rw [parts]; omega
  | .row => by rw [parts]; omega
  | .mark => by rw [parts]; omega
  | .val _ _ => by rw [parts]; omega
theorem partss_nn : ∀ ts : List Tm, 0 <= partss ts
  | [] => by rw [partss]; omega
  | t :: ts => by
    rw [partss]
    have h1 := parts_pos t
    have h2 := partss_nn ts
    omega
end
mutual
theorem named_len : ∀ t : Tm, ((named t).length : Int) <= parts t
  | .call w ts => by
    rw [parts, named]
    have := nameds_len ts []
    simp at this
    omega
  | .num _ => by rw [parts, named]; simp
  | .text _ => by rw [parts, named]; simp
  | .row => by rw [parts, named]; simp
  | .mark => by rw [parts, named]; simp
  | .val _ _ => by rw [parts, named]; simp
theorem nameds_len : ∀ (ts : List Tm) (acc : List Pr), ((nameds acc ts).length : Int) <= acc.length + partss ts
  | [], acc => by rw [nameds, partss]; omega
  | t :: ts, acc => by
    rw [nameds, partss]
    have h1 := named_len t
    have h2 := nameds_len ts (uni acc (named t))
    have h3 := uni_len (named t) acc
    omega
end
theorem partss_mem : ∀ {ts : List Tm} {t : Tm}, t ∈ ts -> parts t <= partss ts
  | x :: ts, t, h => by
    rw [partss]
    have h1 := parts_pos x
    have h2 := partss_nn ts
    rcases List.mem_cons.mp h with rfl | h
    · omega
    · have := partss_mem h
      omega
theorem partss_app : ∀ (ts us : List Tm), partss (ts ++ us) = partss ts + partss us
  | [], us => by rw [partss]; simp
  | t :: ts, us => by rw [List.cons_append, partss, partss, partss_app ts us]; omega
theorem parts_inner {t u : Tm} (h : u ∈ inner t) : parts u <= parts t := by
  have h1 := partss_mem h
  have h2 := parts_eq t
  rw [<- partss_eq] at h2
  omega
theorem fold_len (t : Tm) (i : Nat) : ((((inner t).take i).foldl (fun a u => uni a (named u)) []).length : Int) + 1 <= parts t := by
  rw [<- nameds_eq]
  have h1 := nameds_len ((inner t).take i) []
  have h2 := parts_eq t
  rw [<- partss_eq] at h2
  have h3 := partss_app ((inner t).take i) ((inner t).drop i)
  rw [List.take_append_drop] at h3
  have h4 := partss_nn ((inner t).drop i)
  simp at h1
  omega
def daP (p : Pr) : Da := .tup [.fl (.int p.1), .fl (.str p.2)]
theorem isd_P {K : PySem.W.Frag} {H : Hp} {p : Pr} {v : V} (h : IsP H p v) : Isd K H (daP p) v := by
  obtain ⟨a, rfl, e⟩ := h
  unfold daP Isd
  exact ⟨a, _, rfl, SqT.of e, isds_cons (isd_int _) (isds_cons (isd_str _) isds_nil)⟩
theorem isds_P {K : PySem.W.Frag} {H : Hp} : ∀ {ps : List Pr} {vs : List V}, IsPs H ps vs -> Isds K H (ps.map daP) vs
  | [], _, h => by cases h; exact isds_nil
  | _ :: _, _, ⟨v, r, x, y, z⟩ => by subst x; exact isds_cons (isd_P y) (isds_P z)
theorem dep_P : ∀ ps : List Pr, depDs (ps.map daP) <= 1
  | [] => by rw [List.map_nil]; unfold depDs; omega
  | p :: ps => by
    rw [List.map_cons]
    unfold depDs
    have := dep_P ps
    have : depD (daP p) = 1 := by
      unfold daP depD depDs depDs depDs depD
      rfl
    omega
theorem eqD_P (p q : Pr) : eqD (daP p) (daP q) = decide (p = q) := by
  obtain ⟨a, b⟩ := p
  obtain ⟨c, d⟩ := q
  have e : eqD (daP (a, b)) (daP (c, d)) = (eqV (.int a) (.int c) && (eqV (.str b) (.str d) && true)) := by
    unfold daP eqD eqDs eqDs eqDs eqD
    rfl
  rw [e]
  by_cases h1 : a = c
  · subst h1
    rw [eqV_refl (x := V.int a) rfl]
    by_cases h2 : b = d
    · subst h2
      rw [eqV_refl (x := V.str b) rfl]
      simp
    · have : eqV (V.str b) (V.str d) = false := by simp [eqV, h2]
      rw [this]
      simp [h2]
  · have : eqV (V.int a) (V.int c) = false := by simp [eqV, h1]
    rw [this]
    simp [h1]
theorem any_P (p : Pr) : ∀ ps : List Pr, ((ps.map daP).any fun e => eqD e (daP p)) = decide (p ∈ ps)
  | [] => by simp
  | q :: ps => by
    rw [List.map_cons, List.any_cons, any_P p ps, eqD_P]
    by_cases h : q = p
    · subst h; simp
    · have : p ≠ q := fun z => h z.symm
      simp [h, this]
end TM
namespace L2
open PySem PySem.Spec PyProof.Rows
section
variable {X : Cx} {o e value a : Expr} {f : Str} {pos pos' tpos : Pos} {ta tv : TE}
end
section
variable {X : Cx} {CX : CXT} {k : Nat} {f C : Addr} {fd : FuncData} {ps : List Str} {sp : Sp} {ds : List Value} {dvs : List V} {E : XK} {x m : Str} {p pos apos : Pos} {e o : Expr} {es : List Expr} {ta : TE} {t : TA}
end
end L2
namespace TM
open PySem L2
theorem app_list (a b : Str) : (a ++ b).cps.toList = a.cps.toList ++ b.cps.toList := by
  show (a.cps ++ b.cps).toList = _
  simp
theorem len_list (a : Str) : a.length = a.cps.toList.length := by simp [Str.length]
def mkS (l : List Nat) : Str := ⟨l.toArray⟩
theorem mk_list (l : List Nat) : (mkS l).cps.toList = l := by simp [mkS]
theorem str_ext {a b : Str} (h : a.cps.toList = b.cps.toList) : a = b := by
  cases a with | mk x => cases b with | mk y => exact congrArg Str.mk (Array.toList_inj.mp h)
def letOk (c : Nat) : Bool := decide (97 <= c) && decide (c <= 122)
end TM
namespace TM
open PySem L2
open PySem.Builtin.Str (strSub occurrences partsBetween)
end TM
namespace L2
open PySem PySem.Spec PyProof.Rows
open PySem.Builtin.Str (strSub occurrences)
section
variable {X : Cx}
end
section
variable {X : Cx} {tg : Expr}
end
theorem qg_tupC {X : Cx} {pos : Pos} {es : List Expr} {k : Nat} {t : TGs} {n : Nat} {K : PySem.W.Frag} (hK : X.K = K) (hc : X.calm = true) (h : QGs X es t) (hn : (assignEach es X.env).length = n := by rfl) (hst : (assignEach es X.env).findIdx? (·.1) = none := by rfl) : QG X (.Tuple es k pos) (gTup K n t) := by
  subst hK
  exact qg_tup hc h hn hst
end L2
namespace TM
open PySem L2
inductive L2R {α : Type} (R : α -> V -> Prop) : List α -> List V -> Prop
  | nil : L2R R [] []
  | cons {a : α} {v : V} {as : List α} {vs : List V} : R a v -> L2R R as vs -> L2R R (a :: as) (v :: vs)
namespace L2R
variable {α : Type} {R R' : α -> V -> Prop}
theorem imp (h : ∀ a v, R a v -> R' a v) : ∀ {as : List α} {vs : List V}, L2R R as vs -> L2R R' as vs
  | _, _, .nil => .nil
  | _, _, .cons x y => .cons (h _ _ x) (imp h y)
theorem len : ∀ {as : List α} {vs : List V}, L2R R as vs -> vs.length = as.length
  | _, _, .nil => rfl
  | _, _, .cons _ y => by rw [List.length_cons, List.length_cons, len y]
theorem get : ∀ {as : List α} {vs : List V} {i : Nat} {v : V}, L2R R as vs -> vs[i]? = some v -> ∃ a, as[i]? = some a /\ R a v
  | _, _, i, v, .nil, e => by simp at e
  | _, _, 0, v, .cons (a := a) x y, e => by
    simp at e
    subst e
    exact ⟨a, rfl, x⟩
  | _, _, i + 1, v, .cons x y, e => by
    obtain ⟨b, hb, r⟩ := get (i := i) y (by simpa using e)
    exact ⟨b, by simpa using hb, r⟩
theorem app : ∀ {as bs : List α} {vs us : List V}, L2R R as vs -> L2R R bs us -> L2R R (as ++ bs) (vs ++ us)
  | _, _, _, _, .nil, g => g
  | _, _, _, _, .cons x y, g => .cons x (app y g)
theorem one {a : α} {v : V} (h : R a v) : L2R R [a] [v] := .cons h .nil
theorem snoc {as : List α} {vs : List V} {a : α} {v : V} (h : L2R R as vs) (g : R a v) : L2R R (as ++ [a]) (vs ++ [v]) := h.app (one g)
end L2R
structure Sg where
  nm : Str
  dn : List (Str × Str)
  up : List (Str × Str)
structure Ru where
  k : Int
  nm : Str
  tm : Tm
structure Fm where
  nm : Str
  hd : Str
  br : List Str
  ru : List Ru
structure Gr where
  sg : List Sg
  fm : List Fm
def PrIs (H : Hp) (p : Str × Str) (v : V) : Prop := ∃ a, v = .ref a /\ H a = some (.tup [.str p.1, .str p.2])
def SgIs (H : Hp) (s : Sg) (v : V) : Prop := ∃ p a b us ws, v = .ref p /\ H p = some (.tup [.str s.nm, .ref a, .ref b]) /\ H a = some (.tup us) /\ L2R (PrIs H) s.dn us /\ H b = some (.tup ws) /\ L2R (PrIs H) s.up ws
def RuIs (H : Hp) (r : Ru) (v : V) : Prop := ∃ p u, v = .ref p /\ H p = some (.tup [.int r.k, .str r.nm, u]) /\ TmIs H r.tm u
def FmIs (H : Hp) (f : Fm) (v : V) : Prop := ∃ p a b us, v = .ref p /\ H p = some (.tup [.str f.nm, .str f.hd, .ref a, .ref b]) /\ H a = some (.tup (f.br.map V.str)) /\ H b = some (.tup us) /\ L2R (RuIs H) f.ru us
def GrIs (H : Hp) (g : Gr) (v : V) : Prop := ∃ p a b us ws, v = .ref p /\ H p = some (.tup [.ref a, .ref b]) /\ H a = some (.tup us) /\ L2R (SgIs H) g.sg us /\ H b = some (.tup ws) /\ L2R (FmIs H) g.fm ws
section
variable {H H' : Hp}
theorem PrIs.same (e : SameT H H') {p : Str × Str} {v : V} (h : PrIs H p v) : PrIs H' p v := by
  obtain ⟨a, x, y⟩ := h
  exact ⟨a, x, e _ _ y⟩
theorem SgIs.same (e : SameT H H') {p : Sg} {v : V} (h : SgIs H p v) : SgIs H' p v := by
  obtain ⟨p, a, b, us, ws, x, y, z, l, z', l'⟩ := h
  exact ⟨p, a, b, us, ws, x, e _ _ y, e _ _ z, l.imp fun _ _ => PrIs.same e, e _ _ z', l'.imp fun _ _ => PrIs.same e⟩
theorem RuIs.same (e : SameT H H') {p : Ru} {v : V} (h : RuIs H p v) : RuIs H' p v := by
  obtain ⟨p, u, x, y, z⟩ := h
  exact ⟨p, u, x, e _ _ y, TmIs.same e _ z⟩
theorem FmIs.same (e : SameT H H') {p : Fm} {v : V} (h : FmIs H p v) : FmIs H' p v := by
  obtain ⟨p, a, b, us, x, y, z, z', l⟩ := h
  exact ⟨p, a, b, us, x, e _ _ y, e _ _ z, e _ _ z', l.imp fun _ _ => RuIs.same e⟩
theorem GrIs.same (e : SameT H H') {p : Gr} {v : V} (h : GrIs H p v) : GrIs H' p v := by
  obtain ⟨p, a, b, us, ws, x, y, z, l, z', l'⟩ := h
  exact ⟨p, a, b, us, ws, x, e _ _ y, e _ _ z, l.imp fun _ _ => SgIs.same e, e _ _ z', l'.imp fun _ _ => FmIs.same e⟩
end
def NmOk (z : Str) : Prop := z.cps.toList ≠ [] /\ z.cps.toList.length <= 8 /\ ∀ c ∈ z.cps.toList, letOk c = true
abbrev kinds3 : List Str := ["num", "text", "row"]
def PrOk (p : Str × Str) : Prop := NmOk p.1 /\ p.2 ∈ kinds3
end TM
namespace L2
open PySem PySem.Spec PyProof.Rows TM
theorem take_snocA {α : Type} {xs : List α} {i : Nat} {x : α} (h : xs[i]? = some x) : xs.take (i + 1) = xs.take i ++ [x] := by
  rw [List.take_succ, h]
  rfl
section
variable {K : PySem.W.Frag} {a : Addr} {xs : List V} {js : List Nat} {g : TG} {n : Nat} {te : TE} {σ : St} {Q : VK} {D : Addr} {H1 : Hp} {α : Type} {R : Hp -> α -> V -> Prop} {as : List α}
def OffD (D : Addr) (R : Hp -> α -> V -> Prop) : Prop := ∀ H H' acc b v, H D = some (.lst acc) -> (∀ c o, c ≠ D -> H c = some o -> H' c = some o) -> R H b v -> R H' b v
theorem OffD.ofT (h : ∀ H H' b v, SameT H H' -> R H b v -> R H' b v) : OffD D R := fun H H' acc b v d k r => h H H' b v (fun c ys e => k c _ (fun z => by rw [z, d] at e; cases e) e) r
end
end L2
namespace L2
open PySem PySem.Spec PyProof.Rows
theorem tp_norev : typeLookup (.type "tuple") "__reversed__" = pure none := by rw [typeLookup_type, builtinLookup_eq_fast]; kernel_rfl
theorem tp_getitem : typeLookup (.type "tuple") "__getitem__" = pure (some (.builtin "tuple.__getitem__")) := by rw [typeLookup_type, builtinLookup_eq_fast]; kernel_rfl
theorem tp_nodict : isSubtype (.type "tuple") (.type "dict") = pure false := by rw [isSubtype_type]; kernel_rfl
theorem rv_nolen : typeLookup (.type "reversed") "__len__" = pure none := by rw [typeLookup_type, builtinLookup_eq_fast]; kernel_rfl
theorem rv_hint : typeLookup (.type "reversed") "__length_hint__" = pure (some (.builtin "reversed.__length_hint__")) := by rw [typeLookup_type, builtinLookup_eq_fast]; kernel_rfl
theorem owner_rv : Manifest.owners.lookup (String.ofList ['d', 'e', 's', 'r', 'e', 'v', 'e', 'r'].reverse) = some Manifest.sig_reversed := by kernel_rfl
theorem slot_rv_next : Slot "reversed" "__next__" "reversed.__next__" :=
  .of (owner := "reversed") (n := "__next__") (by rw [typeLookup_type, builtinLookup_eq_fast]; kernel_rfl) (by decide +kernel) (by decide +kernel) (by decide +kernel)
    (by first | exact .inl (by decide +kernel) | exact .inr (by decide +kernel)) (by rw [isSubtype_type]; kernel_rfl)
theorem entry_rv_next : entryFor table "reversed.__next__" = some Builtin.«reversed.__next__» := entryFor_of_tree (by kernel_rfl)
theorem args_rv_next_1 (a : Value) : argsOk "reversed.__next__" ⟨[a], []⟩ := by
  unfold argsOk; rw [signature?_of (id := "reversed.__next__") (n := ['_', '_', 't', 'x', 'e', 'n', '_', '_']) (o := ['d', 'e', 's', 'r', 'e', 'v', 'e', 'r']) (by kernel_rfl) owner_rv]; kernel_rfl
theorem slot_rv_iter : Slot "reversed" "__iter__" "reversed.__iter__" :=
  .of (owner := "reversed") (n := "__iter__") (by rw [typeLookup_type, builtinLookup_eq_fast]; kernel_rfl) (by decide +kernel) (by decide +kernel) (by decide +kernel)
    (by first | exact .inl (by decide +kernel) | exact .inr (by decide +kernel)) (by rw [isSubtype_type]; kernel_rfl)
theorem args_rv_iter_1 (a : Value) : argsOk "reversed.__iter__" ⟨[a], []⟩ := by
  unfold argsOk; rw [signature?_of (id := "reversed.__iter__") (n := ['_', '_', 'r', 'e', 't', 'i', '_', '_']) (o := ['d', 'e', 's', 'r', 'e', 'v', 'e', 'r']) (by kernel_rfl) owner_rv]; kernel_rfl
theorem entry_rv_iter : entryFor table "reversed.__iter__" = some Builtin.«dict_keyiterator.__iter__» :=
  entryFor_alias (id' := "dict_keyiterator.__iter__") (by kernel_rfl) (by first | rfl | decide +kernel | (unfold String.splitOn; simp +decide [String.splitOnAux])) (by decide +kernel) (by kernel_rfl)
end L2
namespace L2
open PySem PySem.Spec PyProof.Rows
section
variable {prog : Program} {w : World} {A : Around} {E : Value -> Shared -> Prop} {s : Shared}
def rvObj (l : Addr) (i : Int) : Obj := { cls := .type "reversed", data := .fields #[.ref l, rawInt i] }
def IsRv (h : Heap) (a l : Addr) (i : Int) : Prop := ∃ o, h.get? a = some o /\ o.cls = .type "reversed" /\ o.data = .fields #[.ref l, rawInt i]
theorem IsRv.typeIs {a l : Addr} {i : Int} (x : IsRv s.heap a l i) : s.TypeIs (.ref a) "reversed" := let ⟨o, ho, hc, _⟩ := x; ⟨o, ho, hc⟩
theorem IsRv.at {h h' : Heap} {a l : Addr} {i : Int} (x : IsRv h a l i) (e : ∀ o, h.get? a = some o -> h'.get? a = some o) : IsRv h' a l i := let ⟨o, ho, r⟩ := x; ⟨o, e _ ho, r⟩
theorem code_rv_new {l : Addr} {items : Array Value} {Q₁ : Value -> Shared -> Prop} (hl : IsTup s.heap l items) (hz : items.size <= sizeLine)
    (h : ∀ tk, Q₁ (.ref s.heap.objs.size) { s with heap := s.heap.push (rvObj l ((items.size : Int) - 1)), toks := tk }) :
    codeAny (model prog w) A (.call (.builtin "reversed.__new__") ⟨[.type "reversed", .ref l], []⟩) (wants Q₁ E) s := by
  refine codeAny_of_tree ?_
  show wpAny _ A.in1 (do checkBuiltinCall "reversed.__new__" ⟨[.type "reversed", .ref l], []⟩; again (.builtin "reversed.__new__" ⟨[.type "reversed", .ref l], []⟩)) _ _ s
  refine wpAny_bind (wpAny_of_eq (F.newCall_reversed_1 _) (wpAny_pure ⟨plainId_quiet F.plain_reversed_new _, codeAny_builtin F.entry_reversed_new ?_⟩))
  rw [Around.under_plainId F.plain_reversed_new _]
  unfold Builtin.«reversed.__new__»
  refine wpAny_bind (wpAny_of_eq (newClass_reversed _) ?_)
  try dsimp only
  refine wpAny_bind (wpAny_of_eq (a := ()) (by first | rfl | kernel_rfl) ?_)
  refine wpAny_bind (wpAny_of_eq (a := ()) (by first | rfl | kernel_rfl) ?_)
  try dsimp only
  refine wpAny_bind (wpAny_specialOf hl.typeIs tp_norev ?_)
  try dsimp only
  refine wpAny_bind ?_
  wp_delta
  refine wpAny_bind (wpAny_isInstance (b := false) hl.typeIs tp_nodict ?_)
  rw [if_neg (show ¬ (false = true) from Bool.false_ne_true)]
  refine wpAny_bind (wpAny_specialOf hl.typeIs tp_getitem ?_)
  dsimp only
  rw [if_pos (by decide +kernel)]
  refine wpAny_pure ?_
  rw [if_neg (show ¬ ((!true) = true) from Bool.false_ne_true)]
  refine wpAny_bind (len_tuple hl (by have : (sizeLine : Int) < 2 ^ 63 := by decide
                                      omega) ?_)
  refine wpAny_bind (wpAny_of_eq (a := some ((items.size : Nat) : Int)) rfl ?_)
  dsimp only
  unfold Builtin.SmallTypes.newRecord
  exact wpAny_bind (wpAny_newObj_type (wpAny_pure (h _)) (by size_fits))
theorem slot_rv_init : Slot "reversed" "__init__" "object.__init__" :=
  .of (owner := "object") (n := "__init__") (by rw [typeLookup_type, builtinLookup_eq_fast]; kernel_rfl) (by decide +kernel) (by decide +kernel) (by decide +kernel)
    (by first | exact .inl (by decide +kernel) | exact .inr (by decide +kernel)) (by rw [isSubtype_type]; kernel_rfl)
theorem called_rv : TypeCalled "reversed" "reversed.__new__" "object.__init__" :=
  ⟨by decide +kernel, by decide +kernel, ⟨_, _, F.mro_reversed⟩, madeBy_type F.mro_reversed F.lookup_reversed_new (by decide +kernel), by decide +kernel, by rw [isSubtype_type]; kernel_rfl, slot_rv_init⟩
theorem call_rv {l : Addr} {items : Array Value} {Q : Value -> Shared -> Prop} (hl : IsTup s.heap l items) (hz : items.size <= sizeLine)
    (h : ∀ tk, Q (.ref s.heap.objs.size) { s with heap := s.heap.push (rvObj l ((items.size : Int) - 1)), toks := tk }) : wpAny (model prog w) A (call (.type "reversed") [.ref l]) Q E s := by
  refine callType_codes (Q₁ := fun obj s₁ => s₁.TypeIs obj "reversed" /\ Q obj s₁) called_rv (F.typeCall_reversed_1 _) F.entry_object_init
    (code_rv_new hl hz fun tk => ⟨⟨_, Heap.get?_push_size _ rfl, rfl⟩, h tk⟩) fun obj s₁ h₁ => ?_
  exact ⟨h₁.1, F.args_object_init_2 obj _, object_init_meets called_rv.init.lookup called_rv.made (by decide) prog w A.in1 _ s₁ ⟨h₁.1, rfl, h₁.2⟩⟩
theorem rvNext_yes {it l : Addr} {i : Nat} {items : Array Value} {x : Value} {Q : Option Value -> Shared -> Prop} (hit : IsRv s.heap it l (i : Int)) (hl : IsTup s.heap l items) (hne : l ≠ it) (hi : (i : Int) < 2 ^ 63) (hx : items[i]? = some x)
    (hQ : ∀ h' tk, IsRv h' it l ((i : Int) - 1) -> Heap.SameBut it s.heap h' -> Q (some x) { s with heap := h', toks := tk }) : wpAny (model prog w) A (pyNext (.ref it)) Q E s := by
  obtain ⟨o, ho, hc, hd⟩ := id hit
  unfold pyNext
  refine wpAny_bind (wpAny_attempt (wpAny_callSpecial?_slot (name := Str.ofString "__next__") hit.typeIs slot_rv_next
    (wpAny_call_entry slot_rv_next hit.typeIs entry_rv_next ?_ (args_rv_next_1 _))))
  unfold Builtin.«reversed.__next__»
  refine wpAny_bind (wpAny_of_eq (a := (Value.ref it, [])) rfl ?_)
  try dsimp only
  refine wpAny_bind (wpAny_field ho hd (x := .ref l) rfl ?_)
  refine wpAny_bind (wpAny_field ho hd (x := rawInt (i : Int)) rfl ?_)
  show wpAny _ _ (if (i : Int) < 0 then _ else _) _ _ s
  rw [if_neg (by omega)]
  refine wpAny_bind (wpAny_specialOf hl.typeIs tp_getitem ?_)
  rw [if_neg (by simp)]
  refine wpAny_bind (wpAny_mkInt ?_)
  refine wpAny_bind (wpAny_attempt (getItem_tuple (s := { s with toks := s.toks + 1 }) (j := i) (x := x) hl (by omega) hi ?_ hx ?_))
  · unfold seqIndex?
    have := (Array.getElem?_eq_some_iff.mp hx).1
    simp
    omega
  dsimp only
  refine wpAny_bind (wpAny_field (s := { s with toks := s.toks + 1 }) ho hd (x := rawInt (i : Int)) rfl ?_)
  show wpAny _ _ (setField (.ref it) 1 (rawInt ((i : Int) - 1)) >>= _) _ _ _
  refine wpAny_bind (wpAny_setField (s := { s with toks := s.toks + 1 }) ho hd (by simp) ?_)
  refine wpAny_pure ⟨x, rfl, wpAny_pure (hQ _ _ ?_ (Heap.SameBut.update ..))⟩
  exact ⟨_, Heap.get?_update_self _ ho (Obj.isFreed_of_fields (Obj.data_mapFields hd _)), (Obj.cls_mapFields ..).trans hc, by
    rw [Obj.data_mapFields hd]; simp⟩
theorem rvNext_no {it l : Addr} {Q : Option Value -> Shared -> Prop} (hh : A.handled = none) (hit : IsRv s.heap it l (-1))
    (hQ : ∀ h', Heap.ExtBut it s.heap h' -> Q none { s with heap := h' }) : wpAny (model prog w) A (pyNext (.ref it)) Q E s := by
  obtain ⟨o, ho, hc, hd⟩ := id hit
  unfold pyNext
  refine wpAny_bind (wpAny_attempt (wpAny_callSpecial?_slot (name := Str.ofString "__next__") hit.typeIs slot_rv_next
    (wpAny_call_entry slot_rv_next hit.typeIs entry_rv_next ?_ (args_rv_next_1 _))))
  unfold Builtin.«reversed.__next__»
  refine wpAny_bind (wpAny_of_eq (a := (Value.ref it, [])) rfl ?_)
  try dsimp only
  refine wpAny_bind (wpAny_field ho hd (x := .ref l) rfl ?_)
  refine wpAny_bind (wpAny_field ho hd (x := rawInt (-1)) rfl ?_)
  show wpAny _ _ (if (-1 : Int) < 0 then _ else _) _ _ s
  rw [if_pos (by decide)]
  refine wpAny_bind (wpAny_rule ?_)
  refine wpAny_bind ?_
  wp_delta
  refine wpAny_bind (wpAny_setField ho hd (by simp) ?_)
  refine wpAny_setField (Heap.get?_update_self _ ho (Obj.isFreed_of_fields (Obj.data_mapFields hd _))) (Obj.data_mapFields hd _) (by simp) ?_
  refine wpAny_bind ?_
  first
  | show wpAny _ _ (newExc (.type "StopIteration") [] >>= _) _ _ _
  | (refine wpAny_bind ?_; show wpAny _ _ (newExc (.type "StopIteration") [] >>= _) _ _ _)
  refine wpAny_bind ?_
  simp only [newExc, newTuple]
  refine wpAny_bind (wpAny_newObj_type ?_ (by size_fits))
  refine wpAny_bind (m := firstArgMember _ _) (wpAny_of_eq (a := Value.none) (by first | rfl | (simp only [firstArgMember]; rfl)) ?_)
  refine wpAny_newObj_type ?_ (by size_fits)
  simp only [raiseNew]
  refine wpAny_bind (wpAny_handled ?_)
  first | rw [show A.in1.handled = none from hh] | rw [hh]
  refine wpAny_bind (wpAny_pure (wpAny_throw ?_))
  refine wpAny_bind (wpAny_isInstance (T := "StopIteration") (b := true) ⟨_, Heap.get?_push_size _ rfl, rfl⟩ isSubtype_stop ?_)
  exact wpAny_pure (hQ _ ((((Heap.SameBut.update ..).trans (Heap.SameBut.update ..)).extBut.push _).push _))
theorem rvIter {it l : Addr} {i : Int} {Q : Value -> Shared -> Prop} (hit : IsRv s.heap it l i) (h : Q (.ref it) s) : wpAny (model prog w) A (pyIter (.ref it)) Q E s := by
  refine wpAny_pyIter_slot hit.typeIs slot_rv_iter (wpAny_call_entry slot_rv_iter hit.typeIs entry_rv_iter ?_ (args_rv_iter_1 _))
  show wpAny _ _ (ret (.ref it)) _ _ s
  exact wpAny_pure ⟨_, rfl, "reversed", _, hit.typeIs, slot_rv_next.lookup, h⟩
end
theorem tup_at {h h' : Heap} {l : Addr} {items : Array Value} (x : IsTup h l items) (e : ∀ o, h.get? l = some o -> h'.get? l = some o) : IsTup h' l items := let ⟨o, ho, r⟩ := x; ⟨o, e _ ho, r⟩
theorem walksRv {prog : Program} {w : World} {A : Around} (hh : A.handled = none) (I l : Addr) (hne : l ≠ I) (items : Array Value) (hz : items.size <= sizeLine) :
    Walks prog w A I [I, l] [I] items.size (fun i v => items[items.size - 1 - i]? = some v) (fun i h => i <= items.size /\ IsRv h I l ((items.size : Int) - 1 - (i : Int)) /\ IsTup h l items) where
  sub := fun b hb => by simp at hb; simp [hb]
  frame := fun _ _ _ x hk => ⟨x.1, x.2.1.at fun o e => hk I (by simp) o e, tup_at x.2.2 fun o e => hk l (by simp) o e⟩
  item := fun i s Q E hi x hQ => by
    have e : (items.size : Int) - 1 - (i : Int) = ((items.size - 1 - i : Nat) : Int) := by omega
    have hit := x.2.1
    rw [e] at hit
    have h63 : (sizeLine : Int) < 2 ^ 63 := by decide
    have hx : items[items.size - 1 - i]? = some (items[items.size - 1 - i]'(by omega)) := Array.getElem?_eq_getElem (by omega)
    refine rvNext_yes hit x.2.2 hne (by omega) hx fun h' tk hit' hs' => ?_
    have e2 : ((items.size - 1 - i : Nat) : Int) - 1 = (items.size : Int) - 1 - ((i + 1 : Nat) : Int) := by omega
    rw [e2] at hit'
    exact hQ _ h' tk hx ⟨hi, hit', tup_at x.2.2 fun o eo => (hs'.2 l hne).trans eo⟩ fun b o hb eo => hs'.extBut b o (fun h => hb (by simp [h])) eo
  done := fun s Q E x hQ => by
    have e : (items.size : Int) - 1 - (items.size : Int) = -1 := by omega
    have hit := x.2.1
    rw [e] at hit
    exact rvNext_no hh hit fun h' he' => hQ h' s.toks fun b o hb eo => he' b o (fun h => hb (by simp [h])) eo
  self := fun _ _ _ _ x hQ => rvIter x.2.1 hQ
end L2
namespace L2
open PySem PySem.Spec PyProof.Rows
section
variable {prog : Program} {w : World} {A : Around} {E : Value -> Shared -> Prop} {s : Shared}
theorem slot_rv_hint : Slot "reversed" "__length_hint__" "reversed.__length_hint__" :=
  .of (owner := "reversed") (n := "__length_hint__") (by rw [typeLookup_type, builtinLookup_eq_fast]; kernel_rfl) (by decide +kernel) (by decide +kernel) (by decide +kernel)
    (by first | exact .inl (by decide +kernel) | exact .inr (by decide +kernel)) (by rw [isSubtype_type]; kernel_rfl)
theorem entry_rv_hint : entryFor table "reversed.__length_hint__" = some Builtin.«reversed.__length_hint__» := entryFor_of_tree (by kernel_rfl)
theorem args_rv_hint_1 (a : Value) : argsOk "reversed.__length_hint__" ⟨[a], []⟩ := by
  unfold argsOk; rw [signature?_of (id := "reversed.__length_hint__") (n := ['_', '_', 't', 'n', 'i', 'h', '_', 'h', 't', 'g', 'n', 'e', 'l', '_', '_']) (o := ['d', 'e', 's', 'r', 'e', 'v', 'e', 'r']) (by kernel_rfl) owner_rv]; kernel_rfl
theorem rv_hintIs {it l : Addr} {items : Array Value} {Q : Bool -> Shared -> Prop} (hi : IsRv s.heap it l ((items.size : Int) - 1)) (hl : IsTup s.heap l items) (hn : items.size <= sizeLine)
    (h : ∀ tk, Q ((items.size : Int) != 0) { s with toks := tk }) : wpAny (model prog w) A (Builtin.List.listLengthHint (.ref it)) Q E s := by
  have h63 : (sizeLine : Int) < 2 ^ 63 := by decide
  obtain ⟨o, ho, hc, hd⟩ := id hi
  unfold Builtin.List.listLengthHint
  refine wpAny_bind (wpAny_specialOf hi.typeIs rv_nolen (show wpAny _ A (specialOf (Value.ref it) (Str.ofString "__length_hint__") >>= _) _ _ _ from wpAny_bind (wpAny_specialOf hi.typeIs rv_hint ?_)))
  generalize hid : ("reversed.__length_hint__" : String) = id0
  wp_delta
  rw [show splitId id0 = some ("reversed", "__length_hint__") from by subst hid; decide +kernel]
  subst hid
  refine wpAny_bind (wpAny_isInstance (b := true) hi.typeIs (by rw [isSubtype_type]; kernel_rfl) ?_)
  rw [if_neg (by decide)]
  dsimp only
  rw [if_neg (by decide +kernel)]
  refine wpAny_bind (wpAny_rule ?_)
  refine wpAny_bind (wpAny_of_eq (slot_rv_hint.bind _) ?_)
  dsimp only
  refine wpAny_bind (wpAny_attempt (wpAny_call_entry slot_rv_hint hi.typeIs entry_rv_hint ?_ (args_rv_hint_1 _)))
  unfold Builtin.«reversed.__length_hint__»
  refine wpAny_bind (wpAny_of_eq (a := Value.ref it) rfl ?_)
  refine wpAny_bind (wpAny_field ho hd (x := .ref l) rfl ?_)
  rw [if_neg (show ¬ ((Value.ref l == Value.none) = true) from Bool.false_ne_true)]
  refine wpAny_bind (len_tuple hl (by omega) ?_)
  refine wpAny_bind (wpAny_of_eq (a := some ((items.size : Nat) : Int)) rfl ?_)
  dsimp only
  refine wpAny_bind (wpAny_field (s := { s with toks := s.toks + 1 + 1 }) ho hd (x := rawInt ((items.size : Int) - 1)) rfl ?_)
  show wpAny _ _ (if ((items.size : Nat) : Int) < ((items.size : Int) - 1) + 1 then _ else _) _ _ _
  rw [if_neg (by omega)]
  refine wpAny_bind (wpAny_mkInt (wpAny_pure ⟨_, rfl, ?_⟩))
  show wpAny _ _ (asInt? (Value.int ((items.size : Int) - 1 + 1) (s.toks + 1 + 1)) >>= _) _ _ _
  refine wpAny_bind (wpAny_of_eq (a := some ((items.size : Int) - 1 + 1)) rfl ?_)
  dsimp only
  rw [if_neg (by rw [fitsIndex_both (by omega) (by omega)]; decide), if_neg (by omega), if_neg (by rw [notLongL (by omega)]; decide), show (items.size : Int) - 1 + 1 = (items.size : Int) by omega]
  exact wpAny_pure (h _)
theorem rv_collect {it l : Addr} {items : Array Value} {Q : List Value -> Shared -> Prop} (hh : A.handled = none) (hi : IsRv s.heap it l ((items.size : Int) - 1)) (hl : IsTup s.heap l items) (nl : l ≠ it) (hn : items.size <= sizeLine)
    (hQ : ∀ (h' : Heap) tk acc, s.heap.objs.size <= h'.objs.size -> (∀ b o, b ≠ it -> s.heap.get? b = some o -> h'.get? b = some o) -> ItemsOf (fun i v => items[items.size - 1 - i]? = some v) acc items.size -> Q acc.toList { s with heap := h', toks := tk }) :
    wpAny (model prog w) A (collect (.ref it)) Q E s := by
  have li : it < s.heap.objs.size := let ⟨_, e, _⟩ := hi; Heap.lt_size e
  have ll : l < s.heap.objs.size := let ⟨_, e, _⟩ := hl; Heap.lt_size e
  have nS : s.heap.objs.size ≠ it := Nat.ne_of_gt li
  have nSl : s.heap.objs.size ≠ l := Nat.ne_of_gt ll
  have W := (walksRv (prog := prog) (w := w) (A := A.in1) hh it l nl items hn).toS
  unfold collect
  refine wpAny_bind (wpAny_runValue (codeAny_builtin F.entry_proto_collect ?_))
  rw [Around.under_plainId F.plain_proto_collect _]
  show wpAny _ A.in1 (newList [] >>= fun l => again (.builtin "list.__iadd__" ⟨[l, .ref it], []⟩)) _ _ s
  refine wpAny_bind (wpAny_newObj_type ?_)
  refine wpAny_pure ⟨plainId_quiet F.plain_list_iadd _, codeAny_builtin F.entry_list_iadd ?_⟩
  rw [Around.under_plainId F.plain_list_iadd _]
  have hS : (s.heap.push { cls := .type "list", data := .seq ([] : List Value).toArray }).get? s.heap.objs.size = some { cls := .type "list", data := .seq ([] : List Value).toArray } := Heap.get?_push_size _ rfl
  have hi1 : IsRv (s.heap.push { cls := .type "list", data := .seq ([] : List Value).toArray }) it l ((items.size : Int) - 1) := hi.at fun o e => Heap.get?_push_of_some _ e
  have hl1 : IsTup (s.heap.push { cls := .type "list", data := .seq ([] : List Value).toArray }) l items := tup_at hl fun o e => Heap.get?_push_of_some _ e
  show wpAny _ A.in1 (Builtin.List.listExtendWith (.ref s.heap.objs.size) (.ref it) (.ref s.heap.objs.size)) _ _ _
  unfold Builtin.List.listExtendWith
  refine wpAny_bind (wpAny_typeOf (IsRv.typeIs (s := { s with heap := s.heap.push { cls := .type "list", data := .seq ([] : List Value).toArray } }) hi1) ?_)
  have same : Builtin.List.listSameRef (.ref s.heap.objs.size) (.ref it) = false := by simp [Builtin.List.listSameRef, nS]
  rw [if_neg (by rw [same]; decide)]
  refine wpAny_bind (rvIter hi1 (wpAny_bind (wpAny_holding ?_)))
  refine rv_hintIs (A := A.in1) hi1 hl1 hn fun tk => ?_
  dsimp only
  have key : ∀ (h1 : Heap) (c0 : Nat) (tk : Nat), h1.get? s.heap.objs.size = some { cls := .type "list", data := .seq #[] c0 } -> (∀ b o, b ≠ s.heap.objs.size -> (s.heap.push { cls := .type "list", data := .seq ([] : List Value).toArray }).get? b = some o -> h1.get? b = some o) ->
      wpAny (model prog w) A.in1 (again (Code.builtin "list.extend.loop" { pos := [Value.ref s.heap.objs.size, Value.ref it, Value.ref s.heap.objs.size] })) (fun fin s' => match fin with
        | .done f => (fun r s' => match r with | .ok (.ret v) => wpAny (model prog w) A (match v with | .ref a => do (match (<- load a).data with | .seq xs _ => pure xs.toList | _ => unsupported "internal:collect") | _ => unsupported "internal:collect") Q E s' | .ok _ => False | .error e => E e s') (Except.ok f) s'
        | .again c' => c'.quiet = true /\ codeAny (model prog w) A c' (fun r s' => match r with | .ok (.ret v) => wpAny (model prog w) A (match v with | .ref a => do (match (<- load a).data with | .seq xs _ => pure xs.toList | _ => unsupported "internal:collect") | _ => unsupported "internal:collect") Q E s' | .ok _ => False | .error e => E e s') s')
        (fun e s' => E e s') { s with heap := h1, toks := tk } := by
    intro h1 c0 tk hS1 oth
    have hi2 : IsRv h1 it l ((items.size : Int) - 1) := hi1.at fun o e => oth it o nS.symm e
    have hl2 : IsTup h1 l items := tup_at hl1 fun o e => oth l o nSl.symm e
    refine wpAny_pure ⟨plainId_quiet F.plain_extend_loop _, codeAny_extend_loopS W hn s.heap.objs.size (by simp [nS, nSl]) _ items.size 0 _ #[] c0 rfl (Nat.zero_le _) ⟨Nat.zero_le _, by simpa using hi2, hl2⟩ hS1 (ItemsOf.nil _) fun s' acc c' hm hS' ha => ?_⟩
    show wpAny _ A (load s.heap.objs.size >>= _) _ _ s'
    refine wpAny_bind (wpAny_load hS' ?_)
    have e' := Moved.eq_with hm
    have lt := Heap.lt_size hS'
    have hmh := hm.heap
    generalize s'.heap = h' at e' lt hmh
    generalize s'.toks = tk' at e'
    subst e'
    refine wpAny_pure (hQ h' tk' acc (Nat.le_of_lt lt) (fun b o hb e => hmh b o (fun z => ?_) (oth b o (Nat.ne_of_lt (Heap.lt_size e)) (Heap.get?_push_of_some _ e))) ha)
    rcases List.mem_cons.mp z with z | z
    · rw [z] at e
      exact absurd (Heap.lt_size e) (Nat.lt_irrefl _)
    · exact hb (List.mem_singleton.mp z)
  refine wpAny_ite_split (fun _ => ?_) (fun _ => key _ _ _ hS fun b o _ e => e)
  refine wpAny_bind (wpAny_rule ?_)
  refine wpAny_bind ?_
  show wpAny _ A.in1 (updateSeq s.heap.objs.size (·.push .none) >>= fun _ => updateSeq s.heap.objs.size (·.pop)) _ _ _
  refine wpAny_bind (wpAny_updateSeq hS rfl ?_)
  have hS₂ := Heap.get?_update_self (Obj.mapSeq (·.push Value.none)) hS rfl
  refine wpAny_updateSeq hS₂ rfl ?_
  have hS₃ := Heap.get?_update_self (Obj.mapSeq (·.pop)) hS₂ rfl
  exact key _ _ _ hS₃ fun b o hb e => (Heap.get?_update_other _ _ (Ne.symm hb)).trans ((Heap.get?_update_other _ _ (Ne.symm hb)).trans e)
theorem code_tuple_new_rv {it l : Addr} {items : Array Value} {Q₁ : Value -> Shared -> Prop} (hh : A.handled = none) (hi : IsRv s.heap it l ((items.size : Int) - 1)) (hl : IsTup s.heap l items) (nl : l ≠ it) (hn : items.size <= sizeLine)
    (h : ∀ (h' : Heap) tk acc, s.heap.objs.size <= h'.objs.size -> (∀ b o, b ≠ it -> s.heap.get? b = some o -> h'.get? b = some o) -> ItemsOf (fun i v => items[items.size - 1 - i]? = some v) acc items.size -> Q₁ (.ref h'.objs.size) { s with heap := h'.push { cls := .type "tuple", data := .seq acc }, toks := tk }) :
    codeAny (model prog w) A (.call (.builtin "tuple.__new__") ⟨[.type "tuple", .ref it], []⟩) (wants Q₁ E) s := by
  refine codeAny_of_tree ?_
  show wpAny _ A.in1 (do checkBuiltinCall "tuple.__new__" ⟨[.type "tuple", .ref it], []⟩; again (.builtin "tuple.__new__" ⟨[.type "tuple", .ref it], []⟩)) _ _ s
  refine wpAny_bind (wpAny_of_eq (F.newCall_tuple_1 _) (wpAny_pure ⟨plainId_quiet F.plain_tuple_new _, codeAny_builtin F.entry_tuple_new ?_⟩))
  rw [Around.under_plainId F.plain_tuple_new _]
  have hsub := sub_tuple_self
  have hinit := init_tuple_lookup
  have hmh := madeHere_tuple
  have hTI := hi.typeIs
  wp_walk using wpAny_typeOf hTI, rv_collect (A := A.in1) hh hi hl nl hn
  intro h' tk acc hz hm hacc
  show wpAny _ _ (Builtin.Tuple.tupleExact acc.toList.toArray >>= fun v => ret v) _ _ _
  unfold Builtin.Tuple.tupleExact
  refine wpAny_bind (wpAny_newObj_type ?_ (by show acc.toList.toArray.size <= sizeLine; simp only [Array.toArray_toList]; rw [hacc.1]; exact hn))
  refine wpAny_pure ?_
  have e : acc.toList.toArray = acc := by simp
  rw [e]
  exact h h' tk acc hz hm hacc
theorem call_tuple_rv {it l : Addr} {items : Array Value} {Q : Value -> Shared -> Prop} (hh : A.handled = none) (hi : IsRv s.heap it l ((items.size : Int) - 1)) (hl : IsTup s.heap l items) (nl : l ≠ it) (hn : items.size <= sizeLine)
    (h : ∀ (h' : Heap) tk acc, s.heap.objs.size <= h'.objs.size -> (∀ b o, b ≠ it -> s.heap.get? b = some o -> h'.get? b = some o) -> ItemsOf (fun i v => items[items.size - 1 - i]? = some v) acc items.size -> Q (.ref h'.objs.size) { s with heap := h'.push { cls := .type "tuple", data := .seq acc }, toks := tk }) :
    wpAny (model prog w) A (call (.type "tuple") [.ref it]) Q E s := by
  refine callType_codes (Q₁ := fun obj s₁ => s₁.TypeIs obj "tuple" /\ Q obj s₁) F.called_tuple (F.typeCall_tuple_1 _) F.entry_object_init
    (code_tuple_new_rv (A := A.in1) hh hi hl nl hn fun h' tk acc hz hm hacc => ⟨⟨_, Heap.get?_push_size _ rfl, rfl⟩, h h' tk acc hz hm hacc⟩) fun obj s₁ h₁ => ?_
  exact ⟨h₁.1, F.args_object_init_2 obj _, object_init_meets F.called_tuple.init.lookup F.called_tuple.made (by decide) prog w A.in1 _ s₁ ⟨h₁.1, rfl, h₁.2⟩⟩
end
section
variable {X : Cx} {e : Expr} {te : TE} {p1 p2 q1 q2 : Pos}
def tRevT (K : PySem.W.Frag) (te : TE) : TE := fun σ H Q => te σ H fun x H1 => ∃ l ys, x = .ref l /\ SqT K H1 l ys /\ ∀ r, H1 r = none -> Q (.ref r) (upd H1 r (.tup ys.reverse))
theorem pe_tupRev (hc : X.calm = true) (g1 : Gl X "tuple") (m1 : X.mg "tuple" = none) (g2 : Gl X "reversed") (m2 : X.mg "reversed" = none) (he : PE X e te)
    (hs2 : starEach [e] X.env = [(false, eval e X.env)] := by rfl) (hs1 : starEach [.Call (.Name "reversed" p2) [e] [] q2] X.env = [(false, eval (.Call (.Name "reversed" p2) [e] [] q2) X.env)] := by rfl) :
    PE X (.Call (.Name "tuple" p1) [.Call (.Name "reversed" p2) [e] [] q2] [] q1) (tRevT X.K te) := by
  intro pins s σ H Q I h
  refine Call_ (ld_blt I g1 m1 PyProof.Rows.boot_tuple (PyProof.Rows.callWith_type1 ?_ hs1 rfl))
  rw [hs1]
  show wpAny _ _ (spliced ((false, eval (.Call (.Name "reversed" p2) [e] [] q2) X.env) :: backTo q1 [])) _ _ s
  refine Calls.spliced_cons (Call_ (ld_blt I g2 m2 boot_reversed (PyProof.Rows.callWith_type1 ?_ hs2 rfl)))
  rw [hs2]
  show wpAny _ _ (spliced ((false, eval e X.env) :: backTo q2 [])) _ _ s
  refine Calls.spliced_cons (thn (he pins s σ H _ I h) fun u s1 ⟨x, H1, I1, r1, l, ys, ex, hq, k⟩ => ?_)
  subst ex
  cases r1
  refine Calls.spliced_nil ?_
  obtain ⟨vs, rv, pl, hz⟩ := I1.tuple hq
  have hlen := rv.length
  have ll : l < s1.heap.objs.size := let ⟨_, e, _⟩ := pl; Heap.lt_size e
  have nl : l ≠ s1.heap.objs.size := Nat.ne_of_lt ll
  have hzs : vs.toArray.size <= sizeLine := by rw [List.size_toArray]; omega
  refine call_rv pl hzs fun tk1 => Calls.spliced_nil ?_
  refine call_tuple_rv (items := vs.toArray) (I1.ok.hd hc) ⟨_, Heap.get?_push_size _ rfl, rfl, rfl⟩ (tup_at pl fun o e => Heap.get?_push_of_some _ e) nl hzs (fun h' tk acc hzz hk ha => ?_)
  have e := rev_items ha
  have sz : (s1.heap.push (rvObj l ((vs.toArray.size : Int) - 1))).objs.size = s1.heap.objs.size + 1 := Heap.size_push ..
  rw [sz] at hzz
  have fr : H1 h'.objs.size = none := I1.hok.fresh (by omega)
  refine ⟨.ref h'.objs.size, _, I1.laid (t' := tk) (fun b u eb => Heap.get?_push_of_some _ (hk b u (Nat.ne_of_lt (Heap.lt_size eb)) (Heap.get?_push_of_some _ eb))) (by omega) (show ObjOk X.prog X.w _ _ _ (.tup ys.reverse) from ⟨by rw [List.length_reverse]; omega, vs.reverse, rv.reverse, ?_⟩), rfl, k _ fr⟩
  rw [<- e]
  have e2 : acc.toList.toArray = acc := by simp
  rw [e2]
  exact IsTup.new _ _
theorem qe_tupRev (hc : X.calm = true) (g1 : Gl X "tuple") (m1 : X.mg "tuple" = none) (g2 : Gl X "reversed") (m2 : X.mg "reversed" = none) (he : QE X e te)
    (hs2 : starEach [e] X.env = [(false, eval e X.env)] := by rfl) (hs1 : starEach [.Call (.Name "reversed" p2) [e] [] q2] X.env = [(false, eval (.Call (.Name "reversed" p2) [e] [] q2) X.env)] := by rfl) :
    QE X (.Call (.Name "tuple" p1) [.Call (.Name "reversed" p2) [e] [] q2] [] q1) (tRevT X.K te) := ⟨pe_tupRev hc g1 m1 g2 m2 he.h hs2 hs1⟩
end
end L2
namespace L2
open PySem PySem.Spec PyProof.Rows
def rEnL (xs : List V) : Nat -> List V -> Prop := fun i vs => ∃ x, xs[i]? = some x /\ vs = [.int i, x]
theorem turn_enumL {P : Program} {w : World} {K : PySem.W.Frag} {elts : List Expr} {k : Nat} {pos : Pos} (xs : List V) {e it l : Addr} (ne : e ≠ it) (le : l ≠ e) (li : l ≠ it) :
    Turn P w K (.Tuple elts k pos) (ItW xs.length (fun H => SqL K H l xs) (rEnL xs)) [e, it] e (fun i h => (∃ old, IsEnum h e it i old) /\ h.IsListIter it l i) where
  mem := by simp
  obj := fun i h ht b hb => by
    obtain ⟨⟨old, he⟩, o, ho, c, d⟩ := ht
    rcases List.mem_cons.mp hb with z | z
    · rw [z]
      exact ⟨_, he, fun v z => by cases z⟩
    · rw [List.mem_singleton.mp z]
      exact ⟨o, ho, fun v z => by rw [d] at z; cases z⟩
  keep := fun i h h' ht k => by
    obtain ⟨⟨old, he⟩, o, ho, r⟩ := ht
    exact ⟨⟨old, k e (by simp) _ he⟩, o, k it (by simp) o ho, r⟩
  item := by
    intro X hP hw hK hc i pins s σ H E I hf ht ⟨hi, hG⟩
    have hh := I.ok.hd hc
    subst hP hw hK
    obtain ⟨vs, rv, pl, hz⟩ := I.list hG
    have hlen := rv.length
    have W := WalksT.enumerate (prog := X.prog) (w := X.w) (A := X.A) hh e it l ne le li vs.toArray
    refine W.item i s _ _ (by rw [List.size_toArray]; omega) ⟨ht.1, ht.2, pl.isList⟩ fun T vals h1 tk hv hT ht1 hm k1 => ?_
    refine ⟨_, rfl, W.go elts k pos i T _ _ _ hm fun h2 S2 k2 => ?_⟩
    obtain ⟨t, v, hx, rfl⟩ := hv
    obtain ⟨x, hx'⟩ := some_of_lt hi
    obtain ⟨v', hv', rx⟩ := rv.get hx'
    have ev : v' = v := by
      have : vs[i]? = some v := by simpa using hx
      rw [hv'] at this
      exact Option.some.inj this
    subst ev
    have nT : T ∉ [e, it] := W.apart i T _ hm
    have t2 : IsTup h2 T [Value.int i t, v'].toArray := by
      obtain ⟨o, ho, c, m, d⟩ := ht1
      exact ⟨o, k2 T o nT ho, c, m, by rw [d]⟩
    refine ⟨.ref T, upd H T (.tup [.int i, x]), I.turnedT (wr := [e, it]) (fun b o hb q => k2 b o hb (k1 b o hb q)) hf hT (by show 2 <= sizeLine; decide) (.cons ⟨t, rfl⟩ (.cons rx .nil)) t2, rfl, ⟨T, _, rfl, I.hok.fresh hT, ⟨x, hx', rfl⟩, rfl⟩, ⟨S2.1, S2.2.1⟩, fun b hb => ?_⟩
    have f := (hf b hb).1
    have hb2 : ∃ o, s.heap.get? b = some o := by
      obtain ⟨⟨old, he⟩, o, ho, c, d⟩ := ht
      rcases List.mem_cons.mp hb with z | z
      · rw [z]; exact ⟨_, he⟩
      · rw [List.mem_singleton.mp z]; exact ⟨o, ho⟩
    obtain ⟨o, ho⟩ := hb2
    have nb : b ≠ T := fun z => by
      subst z
      exact absurd (Nat.lt_of_lt_of_le (Heap.lt_size ho) hT) (Nat.lt_irrefl _)
    rw [upd_ne nb]
    exact f
  done := by
    intro X hP hw hK hc i pins s σ H E I hf ht ⟨hi, hG⟩
    have hh := I.ok.hd hc
    subst hP hw hK hi
    obtain ⟨vs, rv, pl, hz⟩ := I.list hG
    have hlen := rv.length
    have W := WalksT.enumerate (prog := X.prog) (w := X.w) (A := X.A) hh e it l ne le li vs.toArray
    have e1 : vs.toArray.size = xs.length := by rw [List.size_toArray]; omega
    refine W.done s _ _ ?_ fun h1 tk k1 => ⟨rfl, I.turnedL (wr := [e, it]) k1 fun b hb => hf b hb⟩
    rw [e1]
    exact ⟨ht.1, ht.2, pl.isList⟩
  self := fun A i s Q E ht q => by
    obtain ⟨⟨old, he⟩, _⟩ := ht
    exact wpAny_pyIter_enum he q
section
variable {X : Cx} {elts : List Expr} {k : Nat} {tpos : Pos}
def iEnL (K : PySem.W.Frag) (ta : TA) : TI := fun σ H R => ta σ H fun vs H1 => ∃ l xs, vs = [.ref l] /\ SqL K H1 l xs /\ R (ItW xs.length (fun H => SqL K H l xs) (rEnL xs)) H1
theorem pi_enumL {a : Expr} {ta : TA} {p pos : Pos} (hg : Gl X "enumerate") (hm : X.mg "enumerate" = none) (ha : PA X [a] ta) (hs : starEach [a] X.env = [(false, eval a X.env)] := by rfl) : PI X (.Tuple elts k tpos) (.Call (.Name "enumerate" p) [a] [] pos) (iEnL X.K ta) := by
  intro pins s σ H R I h
  refine Call_ (ld_blt I hg hm boot_enumerate (PyProof.Rows.callWith_type1 (thn (ha pos pins s σ H _ I h) fun us s1 ⟨vs, H1, I1, r1, q1⟩ => ?_) hs rfl))
  obtain ⟨l, xs, e, hq, q⟩ := q1
  subst e
  cases r1 with
  | cons r rr =>
    cases rr
    cases r
    obtain ⟨its, rv, pl, hz⟩ := I1.list hq
    have ll : l < s1.heap.objs.size := let ⟨_, e, _⟩ := pl.isList; Heap.lt_size e
    refine call_enumerate_list pl.isList fun h' he hi hz kp => wpAny_pyIter_enum he ?_
    have I2 : Inv X pins σ H1 { s1 with heap := h' } := I1.kept (t' := s1.toks) kp
    refine ⟨s1.heap.objs.size + 1, [s1.heap.objs.size + 1, s1.heap.objs.size], _, _, H1, rfl, I2, turn_enumL xs (Nat.succ_ne_self _) (Nat.ne_of_lt (Nat.lt_succ_of_lt ll)) (Nat.ne_of_lt ll), ⟨⟨_, he⟩, hi⟩, fun b hb => ?_, q⟩
    have hb' : b = s1.heap.objs.size + 1 \/ b = s1.heap.objs.size := by simpa using hb
    rcases hb' with z | z <;> subst z
    · exact I1.fpOk (Nat.le_succ _) (I1.hok.fresh (Nat.le_succ _))
    · exact I1.fpOk (Nat.le_refl _) (I1.hok.fresh (Nat.le_refl _))
theorem qi_enumL {a : Expr} {ta : TA} {p pos : Pos} (hg : Gl X "enumerate") (hm : X.mg "enumerate" = none) (ha : QA X [a] ta) (hs : starEach [a] X.env = [(false, eval a X.env)] := by rfl) : QI X (.Tuple elts k tpos) (.Call (.Name "enumerate" p) [a] [] pos) (iEnL X.K ta) := ⟨pi_enumL hg hm ha.h hs⟩
end
end L2
namespace L2
open PySem PySem.Spec PyProof.Rows
section
variable {X : Cx}
theorem qe_dget {o i : Expr} {pos : Pos} {td ty : TE} (hu : X.A.units + 1 < cLine) (ho : QE X o td) (hi : QE X i ty) (hs : NoSl i := by intro _ _; rfl) : QE X (.Subscript o i pos) (tDGet td ty) := ⟨pe_dget hu ho.h hi.h hs⟩
theorem qs_dput {o i value : Expr} {pos pos' : Pos} {td ty tv : TE} (hu : X.A.units + 1 < cLine) (ho : QE X o td) (hi : QE X i ty) (hv : QE X value tv) (hs : swapsWith value (some (.Subscript o i pos')) pos.line X.env = pure false := by rfl) : QS X (.Assign [.Subscript o i pos'] value pos) (sDPut td ty tv) := ⟨ps_dput hu ho.h hi.h hv.h hs⟩
theorem qe_dnewT {pos : Pos} : QE X (.Dict [] [] pos) tDNewT := ⟨pe_dnewT⟩
end
end L2
namespace L2
open PySem PySem.Spec PyProof.Rows
section
variable {X : Cx}
end
def ItRT (K : PySem.W.Frag) (a : Addr) (xs : List V) : It := ⟨fun i H => i < xs.length /\ SqT K H a xs, fun i H x H' => H' = H /\ xs.reverse[i]? = some x, fun i H => i = xs.length /\ SqT K H a xs⟩
theorem rvOther {n : String} (h : n = "reversed" \/ n = "range_iterator") : ["enumerate", "zip", "dict_itemiterator", "dict_reverseitemiterator", "odict_iterator", "itertools.zip_longest", "itertools.pairwise"].contains n = false := by
  rcases h with rfl | rfl <;> decide
theorem turn_revT {P : Program} {w : World} {K : PySem.W.Frag} {tg : Expr} (a it : Addr) (xs : List V) (hne : a ≠ it) : Turn P w K tg (ItRT K a xs) [it] it (fun i h => i <= xs.length /\ IsRv h it a ((xs.length : Int) - 1 - (i : Int))) where
  mem := by simp
  obj := fun i h st b hb => by
    have e : b = it := by simpa using hb
    subst e
    obtain ⟨_, o, e, c, d⟩ := st
    exact ⟨o, e, fun v z => by rw [d] at z; cases z⟩
  keep := fun i h h' st k => ⟨st.1, st.2.at fun o e => k it (by simp) o e⟩
  item := by
    intro X hP hw hK hc i pins s σ H E I hf st hg
    subst hP hw hK
    obtain ⟨f0, f1, f2, f3, f4, f5⟩ := hf it (by simp)
    obtain ⟨us, rv, pl, hz⟩ := I.tuple hg.2
    have hlen := rv.length
    have esz : us.toArray.size = xs.length := by simp; omega
    have W := walksRv (prog := X.prog) (w := X.w) (A := X.A) (I.ok.hd hc) it a hne us.toArray (by rw [esz]; omega)
    refine W.item i s _ _ (by rw [esz]; exact hg.1) ⟨by rw [esz]; exact st.1, by rw [esz]; exact st.2, pl⟩ fun v h' tk hv st' kk => ?_
    have I1 : Inv X pins σ H { s with heap := h', toks := tk } := I.turned (fun b o hb e => kk b o (by simpa using hb) e) f0 f1 f3 f4 f5
    obtain ⟨st1, st2, st3⟩ := st'
    rw [esz] at st2
    obtain ⟨x, hx⟩ := some_of_lt (xs := xs) (i := xs.length - 1 - i) (by have := hg.1; omega)
    obtain ⟨v', hv', rx⟩ := rv.get hx
    have ev : v' = v := by
      rw [esz] at hv
      have : us[xs.length - 1 - i]? = some v := by simpa using hv
      rw [hv'] at this
      exact Option.some.inj this
    subst ev
    obtain ⟨o, ho, hcl, hd⟩ := id st2
    refine ⟨_, rfl, go_of (s := { s with heap := h', toks := tk }) (n := "reversed") ho hcl hd (rvOther (.inl rfl)) ⟨x, H, I1, rx, ⟨rfl, ?_⟩, ⟨hg.1, st2⟩, fun b hb => (hf b hb).1⟩⟩
    rw [List.getElem?_reverse hg.1]
    exact hx
  done := by
    intro X hP hw hK hc i pins s σ H E I hf st hg
    subst hP hw hK
    obtain ⟨f0, f1, f2, f3, f4, f5⟩ := hf it (by simp)
    have st2 := st.2
    rw [hg.1, show (xs.length : Int) - 1 - (xs.length : Int) = -1 by omega] at st2
    exact rvNext_no (I.ok.hd hc) st2 fun h' eb => ⟨rfl, I.turned (t' := s.toks) (fun b o hb e => eb b o hb e) f0 f1 f3 f4 f5⟩
  self := fun _ _ _ _ _ st h => rvIter st.2 h
section
variable {X : Cx} {tg e : Expr} {te : TE} {p q : Pos}
def iRevT (K : PySem.W.Frag) (te : TE) : TI := fun σ H R => te σ H fun x H1 => ∃ a xs, x = .ref a /\ SqT K H1 a xs /\ R (ItRT K a xs) H1
theorem pi_revT (hc : X.calm = true) (g2 : Gl X "reversed") (m2 : X.mg "reversed" = none) (he : PE X e te) (hs2 : starEach [e] X.env = [(false, eval e X.env)] := by rfl) : PI X tg (.Call (.Name "reversed" p) [e] [] q) (iRevT X.K te) := by
  intro pins s σ H R I h
  refine Call_ (ld_blt I g2 m2 boot_reversed (PyProof.Rows.callWith_type1 ?_ hs2 rfl))
  rw [hs2]
  show wpAny _ _ (spliced ((false, eval e X.env) :: backTo q [])) _ _ s
  refine Calls.spliced_cons (thn (he pins s σ H _ I h) fun u s1 ⟨x, H1, I1, r1, a, xs, ex, hq, k⟩ => ?_)
  subst ex
  cases r1
  refine Calls.spliced_nil ?_
  obtain ⟨vs, rv, pl, hz⟩ := I1.tuple hq
  have hlen := rv.length
  have ll : a < s1.heap.objs.size := let ⟨_, e, _⟩ := pl; Heap.lt_size e
  have nl : a ≠ s1.heap.objs.size := Nat.ne_of_lt ll
  have esz : vs.toArray.size = xs.length := by simp; omega
  refine call_rv pl (by rw [esz]; omega) fun tk1 => ?_
  have hi : IsRv (s1.heap.push (rvObj a ((vs.toArray.size : Int) - 1))) s1.heap.objs.size a ((xs.length : Int) - 1 - ((0 : Nat) : Int)) := ⟨_, Heap.get?_push_size _ rfl, rfl, by show Data.fields #[.ref a, rawInt ((vs.toArray.size : Int) - 1)] = _; rw [esz]; simp⟩
  have I2 : Inv X pins σ H1 { s1 with heap := s1.heap.push (rvObj a ((vs.toArray.size : Int) - 1)), toks := tk1 } := I1.kept fun b o e => Heap.get?_push_of_some _ e
  refine rvIter (s := { s1 with heap := s1.heap.push (rvObj a ((vs.toArray.size : Int) - 1)), toks := tk1 }) hi ⟨s1.heap.objs.size, [s1.heap.objs.size], _, _, H1, rfl, I2, turn_revT a _ xs nl, ⟨Nat.zero_le _, hi⟩, fun b hb => ?_, k⟩
  have e : b = s1.heap.objs.size := by simpa using hb
  subst e
  exact I1.fpOk (Nat.le_refl _) (I1.hok.fresh (Nat.le_refl _))
theorem qi_revT (hc : X.calm = true) (g2 : Gl X "reversed") (m2 : X.mg "reversed" = none) (he : QE X e te) (hs2 : starEach [e] X.env = [(false, eval e X.env)] := by rfl) : QI X tg (.Call (.Name "reversed" p) [e] [] q) (iRevT X.K te) := ⟨pi_revT hc g2 m2 he.h hs2⟩
end
section
variable {prog : Program} {w : World} {A : Around} {E : Value -> Shared -> Prop} {s : Shared}
end
section
variable {X : Cx} {tg e : Expr} {te : TE} {p1 p2 q1 q2 : Pos}
end
end L2
namespace L2
open PySem PySem.Spec PyProof.Rows
section
variable {X : Cx} {Dc : Addr} {dn n : Str} {i : Nat} {np hpos : Pos} {ts : TS} {b0 : Stmt} {suite : List Stmt} {pins : List (Addr × Obj)} {σ : St} {H1 : Hp} {s1 s' : Shared} {D : Ends} {ev : Value} {Q : Flow -> Shared -> Prop}
variable {k : Nat} {f : Addr} {fd : FuncData} {ps : List Str} {sp : Sp} {x : Str} {p cpos epos : Pos} {e : Expr} {es : List Expr} {t : TA} {EX : XK} {N : Hp -> Prop} {H : Hp} {s : Shared}
end
section
variable {X : Cx} {Dc : Addr} {dn n : Str} {i : Nat} {np hpos pos ipos : Pos} {ts : TS} {b0 : Stmt} {suite : List Stmt} {c : Expr} {tc : TT}
  {k1 k2 : Nat} {f1 f2 : Addr} {fd1 fd2 : FuncData} {ps1 ps2 : List Str} {sp1 sp2 : Sp} {x1 x2 : Str} {p1 p2 c1 c2 q1 q2 : Pos} {e1 e2 : Expr} {es1 es2 : List Expr} {t1 t2 : TA}
end
end L2
namespace L2
open PySem PySem.Spec PyProof.Rows
section
variable {prog : Program} {w : World} {A : Around} {E : Value -> Shared -> Prop} {s : Shared}
theorem tupNext_yes {it t : Addr} {i : Nat} {vs : Array Value} {x : Value} {Q : Value -> Shared -> Prop} (hi : s.heap.IsTupleIter it t i) (ht : s.heap.IsTuple t vs) (hx : vs[i]? = some x)
    (q : ∀ h', h'.IsTupleIter it t (i + 1) -> Heap.SameBut it s.heap h' -> Q x { s with heap := h' }) : wpAny (model prog w) A (Builtin.SmallTypes.nextOf (.ref it)) Q E s := by
  obtain ⟨o, ho, hc, hd⟩ := id hi
  obtain ⟨ot, hot, _, nt, hdt⟩ := ht
  unfold Builtin.SmallTypes.nextOf
  refine wpAny_bind (wpAny_callSpecial?_slot (name := Str.ofString "__next__") hi.typeIs F.slot_tuple_iterator_next (wpAny_call_entry F.slot_tuple_iterator_next hi.typeIs F.entry_tuple_iterator_next ?_ (F.args_tuple_iterator_next_1 _)))
  show wpAny _ _ (field (.ref it) 0 >>= _) _ _ s
  refine wpAny_bind (wpAny_field ho hd (x := .ref t) rfl (show wpAny _ _ (if (Value.ref t == Value.none) = true then _ else _) _ _ s from ?_))
  rw [if_neg (show ¬ ((Value.ref t == Value.none) = true) from Bool.false_ne_true)]
  show wpAny _ _ (field (.ref it) 1 >>= _) _ _ s
  refine wpAny_bind (wpAny_field ho hd (x := .int i 0) rfl (show wpAny _ _ (seqItems? (.ref t) >>= _) _ _ s from wpAny_bind (wpAny_seqItems hot hdt ?_)))
  simp only [Int.toNat_natCast, hx]
  refine wpAny_bind (wpAny_setField ho hd (by simp) (wpAny_pure ⟨x, rfl, wpAny_pure (q _ ⟨_, Heap.get?_update_self _ ho (Obj.isFreed_of_fields (Obj.data_mapFields hd _)), (Obj.cls_mapFields ..).trans hc, ?_⟩ (Heap.SameBut.update ..))⟩))
  rw [Obj.data_mapFields hd]
  simp [rawInt]
theorem tupNext_no {it t : Addr} {i : Nat} {vs : Array Value} {Q : Value -> Shared -> Prop} (hh : A.handled = none) (hi : s.heap.IsTupleIter it t i) (ht : s.heap.IsTuple t vs) (hx : vs[i]? = none)
    (q : ∀ h' e, Heap.ExtBut it s.heap h' -> (∃ o, h'.get? e = some o /\ o.cls = .type "StopIteration") -> E (.ref e) { s with heap := h' }) : wpAny (model prog w) A (Builtin.SmallTypes.nextOf (.ref it)) Q E s := by
  obtain ⟨o, ho, hc, hd⟩ := id hi
  obtain ⟨ot, hot, _, nt, hdt⟩ := ht
  unfold Builtin.SmallTypes.nextOf
  refine wpAny_bind (wpAny_callSpecial?_slot (name := Str.ofString "__next__") hi.typeIs F.slot_tuple_iterator_next (wpAny_call_entry F.slot_tuple_iterator_next hi.typeIs F.entry_tuple_iterator_next ?_ (F.args_tuple_iterator_next_1 _)))
  show wpAny _ _ (field (.ref it) 0 >>= _) _ _ s
  refine wpAny_bind (wpAny_field ho hd (x := .ref t) rfl (show wpAny _ _ (if (Value.ref t == Value.none) = true then _ else _) _ _ s from ?_))
  rw [if_neg (show ¬ ((Value.ref t == Value.none) = true) from Bool.false_ne_true)]
  show wpAny _ _ (field (.ref it) 1 >>= _) _ _ s
  refine wpAny_bind (wpAny_field ho hd (x := .int i 0) rfl (show wpAny _ _ (seqItems? (.ref t) >>= _) _ _ s from wpAny_bind (wpAny_seqItems hot hdt ?_)))
  simp only [Int.toNat_natCast, hx]
  refine wpAny_bind (wpAny_rule (wpAny_bind (wpAny_setField ho hd (by simp) (show wpAny _ _ (newExc (.type "StopIteration") [] >>= _) _ _ _ from wpAny_bind ?_))))
  simp only [newExc, newTuple]
  refine wpAny_bind (wpAny_newObj_type (wpAny_bind (m := firstArgMember _ _) (wpAny_of_eq (a := Value.none) (by first | rfl | (simp only [firstArgMember]; rfl)) (wpAny_newObj_type ?_ (by size_fits)))) (by size_fits))
  simp only [raiseNew]
  refine wpAny_bind (wpAny_handled ?_)
  first | rw [show A.in1.handled = none from hh] | rw [hh]
  exact wpAny_bind (wpAny_pure (wpAny_throw (q _ _ (((Heap.SameBut.update ..).extBut.push _).push _) ⟨_, Heap.get?_push_size _ rfl, rfl⟩)))
structure ZAp (z TI TO i1 i2 t1 t2 : Addr) : Prop where
  a1 : TI ≠ z
  a2 : TO ≠ z
  a3 : i1 ≠ z
  a4 : i2 ≠ z
  a5 : TI ≠ TO
  a6 : TI ≠ i1
  a7 : TI ≠ i2
  a8 : TO ≠ i1
  a9 : TO ≠ i2
  b1 : i1 ≠ i2
  c1 : t1 ≠ z
  c2 : t1 ≠ TO
  c3 : t1 ≠ i1
  c4 : t1 ≠ i2
  d1 : t2 ≠ z
  d2 : t2 ≠ TO
  d3 : t2 ≠ i1
  d4 : t2 ≠ i2
structure ZSt (h : Heap) (z TI TO i1 i2 t1 t2 : Addr) (k : Nat) (vs us : Array Value) (f : Value) : Prop where
  zz : IsZip h z TI TO f
  ti : IsPair h TI (.ref i1) (.ref i2)
  to : ∃ a b, IsPair h TO a b
  n1 : h.IsTupleIter i1 t1 k
  n2 : h.IsTupleIter i2 t2 k
  g1 : h.IsTuple t1 vs
  g2 : h.IsTuple t2 us
theorem ndA {a b : Nat} (h : a < b \/ b < a) : a ≠ b := by omega
theorem itAt {h h' : Heap} {it t : Addr} {i : Nat} (x : h.IsTupleIter it t i) (k : ∀ o, h.get? it = some o -> h'.get? it = some o) : h'.IsTupleIter it t i := let ⟨o, ho, r⟩ := x; ⟨o, k o ho, r⟩
theorem tpAt {h h' : Heap} {t : Addr} {vs : Array Value} (x : h.IsTuple t vs) (k : ∀ o, h.get? t = some o -> h'.get? t = some o) : h'.IsTuple t vs := let ⟨o, ho, r⟩ := x; ⟨o, k o ho, r⟩
theorem zipNext_yes {z TI TO i1 i2 t1 t2 : Addr} {k : Nat} {vs us : Array Value} {x y : Value} {Q : Option Value -> Shared -> Prop} (D : ZAp z TI TO i1 i2 t1 t2) (S : ZSt s.heap z TI TO i1 i2 t1 t2 k vs us .none) (hx : vs[k]? = some x) (hy : us[k]? = some y)
    (q : ∀ h', ZSt h' z TI TO i1 i2 t1 t2 (k + 1) vs us (rawInt s.heap.objs.size) -> IsPair h' s.heap.objs.size x y -> (∀ c o, c ≠ z -> c ≠ TO -> c ≠ i1 -> c ≠ i2 -> s.heap.get? c = some o -> h'.get? c = some o) -> Q (some (.ref s.heap.objs.size)) { s with heap := h' }) :
    wpAny (model prog w) A (pyNext (.ref z)) Q E s := by
  obtain ⟨zz, ti, ⟨a, b, to⟩, n1, n2, g1, g2⟩ := S
  have ty : s.TypeIs (.ref z) "zip" := ⟨_, zz, rfl⟩
  unfold pyNext
  refine wpAny_bind (wpAny_attempt (wpAny_callSpecial?_slot (name := Str.ofString "__next__") ty F.slot_zip_next (wpAny_call_entry F.slot_zip_next ty F.entry_zip_next ?_ (F.args_zip_next_1 _))))
  show wpAny _ _ (field (.ref z) 2 >>= _) _ _ _
  refine wpAny_bind (wpAny_field zz rfl (x := .bool false) rfl (show wpAny _ _ (field (.ref z) 3 >>= _) _ _ _ from wpAny_bind (wpAny_field zz rfl (x := .ref TI) rfl (wpAny_bind (wpAny_seqItems ti rfl ?_)))))
  refine wpAny_bind (show wpAny _ _ (Builtin.SmallTypes.ownedTupleIsFree (.ref z)) _ _ _ from ?_)
  unfold Builtin.SmallTypes.ownedTupleIsFree
  refine wpAny_bind (wpAny_field zz rfl (x := .none) rfl (wpAny_pure ?_))
  simp only [if_true]
  refine wpAny_bind (wpAny_rule (wpAny_bind (wpAny_field zz rfl (x := .ref TO) rfl (wpAny_bind (wpAny_setField_rec zz (by simp) fun u1 z1 k1 => ?_)))))
  have e1 : ∀ c o, c ≠ z -> s.heap.get? c = some o -> u1.get? c = some o := k1.extBut
  have m1 : u1.objs.size = s.heap.objs.size := k1.1
  refine wpAny_bind ?_
  simp only [List.zipIdx_nil, List.zipIdx_cons, List.forIn_nil, List.forIn_cons]
  refine wpAny_bind (wpAny_bind (wpAny_onRaise (show wpAny _ _ (Builtin.SmallTypes.nextOf (.ref i1) >>= _) _ _ _ from wpAny_bind (tupNext_yes (itAt n1 fun o => e1 i1 o D.a3) (tpAt g1 fun o => e1 t1 o D.c1) hx fun u2 j1 k2 => wpAny_pure ?_))))
  have e2 : ∀ c o, c ≠ z -> c ≠ i1 -> s.heap.get? c = some o -> u2.get? c = some o := fun c o h1 h2 e => k2.extBut c o h2 (e1 c o h1 e)
  have z2 := k2.extBut _ _ D.a3.symm z1
  have to2 : IsPair u2 TO a b := e2 _ _ D.a2 D.a8 to
  refine wpAny_bind (wpAny_seqItems to2 rfl (wpAny_bind (wpAny_updateSeq_pair to2 fun u3 to3 k3 => wpAny_bind (wpAny_letGo (wpAny_pure ?_)))))
  have to3' : IsPair u3 TO x b := to3
  have e3 : ∀ c o, c ≠ z -> c ≠ i1 -> c ≠ TO -> s.heap.get? c = some o -> u3.get? c = some o := fun c o h1 h2 h3 e => k3.extBut c o h3 (e2 c o h1 h2 e)
  have z3 := k3.extBut _ _ D.a2.symm z2
  refine wpAny_bind (wpAny_bind (wpAny_onRaise (show wpAny _ _ (Builtin.SmallTypes.nextOf (.ref i2) >>= _) _ _ _ from wpAny_bind (tupNext_yes (itAt n2 fun o => e3 i2 o D.a4 D.b1.symm D.a9.symm) (tpAt g2 fun o => e3 t2 o D.d1 D.d3 D.d2) hy fun u4 j2 k4 => wpAny_pure ?_))))
  have to4 : IsPair u4 TO x b := k4.extBut _ _ D.a9 to3'
  refine wpAny_bind (wpAny_seqItems to4 rfl (wpAny_bind (wpAny_updateSeq_pair to4 fun u5 to5 k5 => wpAny_bind (wpAny_letGo (wpAny_pure (wpAny_pure ?_))))))
  have to5' : IsPair u5 TO x y := to5
  have e5 : ∀ c o, c ≠ z -> c ≠ i1 -> c ≠ TO -> c ≠ i2 -> s.heap.get? c = some o -> u5.get? c = some o := fun c o h1 h2 h3 h4 e => k5.extBut c o h3 (k4.extBut c o h4 (e3 c o h1 h2 h3 e))
  have z5 := k5.extBut _ _ D.a2.symm (k4.extBut _ _ D.a4.symm z3)
  have m5 : u5.objs.size = s.heap.objs.size := by rw [k5.1, k4.1, k3.1, k2.1, m1]
  have lz : z < s.heap.objs.size := Heap.lt_size zz
  refine wpAny_bind (wpAny_seqItems to5' rfl (wpAny_bind (wpAny_newTuple ?_)))
  refine wpAny_bind (show wpAny _ _ (Builtin.SmallTypes.ownedTupleHandOut (.ref z) (.ref u5.objs.size)) _ _ _ from ?_)
  unfold Builtin.SmallTypes.ownedTupleHandOut
  have z6 := Heap.get?_push_of_some { cls := .type "tuple", data := .seq #[x, y] } z5
  refine wpAny_bind (wpAny_setField_rec z6 (by simp) fun u7 z7 k7 => wpAny_setField_rec z7 (by simp) fun u8 z8 k8 => wpAny_pure ⟨_, rfl, ?_⟩)
  have e8 : ∀ c o, c ≠ z -> u5.get? c = some o -> u8.get? c = some o := fun c o h e => k8.extBut c o h (k7.extBut c o h (Heap.get?_push_of_some _ e))
  have p8 : IsPair u8 u5.objs.size x y := k8.extBut _ _ (by rw [m5]; exact Nat.ne_of_gt lz) (k7.extBut _ _ (by rw [m5]; exact Nat.ne_of_gt lz) (Heap.get?_push_size _ rfl))
  refine wpAny_pure ?_
  show Q (some (.ref u5.objs.size)) { s with heap := u8 }
  have z8' : IsZip u8 z TI TO (rawInt u5.objs.size) := z8
  rw [m5] at p8 z8' ⊢
  refine q u8 ⟨z8', e8 _ _ D.a1 (e5 _ _ D.a1 D.a6 D.a5 D.a7 ti), ⟨x, y, e8 _ _ D.a2 to5'⟩, ?_, ?_, tpAt g1 fun o e => e8 _ _ D.c1 (e5 _ _ D.c1 D.c3 D.c2 D.c4 e), tpAt g2 fun o e => e8 _ _ D.d1 (e5 _ _ D.d1 D.d3 D.d2 D.d4 e)⟩ p8 fun c o h1 h2 h3 h4 e => e8 c o h1 (e5 c o h1 h3 h2 h4 e)
  · exact itAt j1 fun o e => e8 _ _ D.a3 (k5.extBut _ _ D.a8.symm (k4.extBut _ _ D.b1 (k3.extBut _ _ D.a8.symm e)))
  · exact itAt j2 fun o e => e8 _ _ D.a4 (k5.extBut _ _ D.a9.symm e)
theorem zipNext_no {z TI TO i1 i2 t1 t2 : Addr} {k : Nat} {vs us : Array Value} {Q : Option Value -> Shared -> Prop} (hh : A.handled = none) (D : ZAp z TI TO i1 i2 t1 t2) (S : ZSt s.heap z TI TO i1 i2 t1 t2 k vs us .none) (hx : vs[k]? = none)
    (q : ∀ h', (∀ c o, c ≠ z -> c ≠ TO -> c ≠ i1 -> c ≠ i2 -> s.heap.get? c = some o -> h'.get? c = some o) -> Q none { s with heap := h' }) : wpAny (model prog w) A (pyNext (.ref z)) Q E s := by
  obtain ⟨zz, ti, ⟨a, b, to⟩, n1, n2, g1, g2⟩ := S
  have ty : s.TypeIs (.ref z) "zip" := ⟨_, zz, rfl⟩
  unfold pyNext
  refine wpAny_bind (wpAny_attempt (wpAny_callSpecial?_slot (name := Str.ofString "__next__") ty F.slot_zip_next (wpAny_call_entry F.slot_zip_next ty F.entry_zip_next ?_ (F.args_zip_next_1 _))))
  show wpAny _ _ (field (.ref z) 2 >>= _) _ _ _
  refine wpAny_bind (wpAny_field zz rfl (x := .bool false) rfl (show wpAny _ _ (field (.ref z) 3 >>= _) _ _ _ from wpAny_bind (wpAny_field zz rfl (x := .ref TI) rfl (wpAny_bind (wpAny_seqItems ti rfl ?_)))))
  refine wpAny_bind (show wpAny _ _ (Builtin.SmallTypes.ownedTupleIsFree (.ref z)) _ _ _ from ?_)
  unfold Builtin.SmallTypes.ownedTupleIsFree
  refine wpAny_bind (wpAny_field zz rfl (x := .none) rfl (wpAny_pure ?_))
  simp only [if_true]
  refine wpAny_bind (wpAny_rule (wpAny_bind (wpAny_field zz rfl (x := .ref TO) rfl (wpAny_bind (wpAny_setField_rec zz (by simp) fun u1 z1 k1 => ?_)))))
  refine wpAny_bind ?_
  simp only [List.zipIdx_nil, List.zipIdx_cons, List.forIn_nil, List.forIn_cons]
  refine wpAny_bind (wpAny_bind (wpAny_onRaise (show wpAny _ _ (Builtin.SmallTypes.nextOf (.ref i1) >>= _) _ _ _ from wpAny_bind (tupNext_no hh (itAt n1 fun o => k1.extBut i1 o D.a3) (tpAt g1 fun o => k1.extBut t1 o D.c1) hx fun u2 e k2 he => ?_))))
  obtain ⟨oe, hoe, hce⟩ := he
  have z2 := k2 _ _ D.a3.symm z1
  have nz : e ≠ z := fun c => by
    subst c
    rw [z2] at hoe
    cases hoe
    simp at hce
  refine wpAny_setField_rec z2 (by simp) fun u3 _ k3 => ?_
  refine wpAny_bind (wpAny_isInstance (T := "StopIteration") (b := true) ⟨oe, k3.extBut _ _ nz hoe, hce⟩ isSubtype_stop (wpAny_pure (q u3 fun c o h1 _ h3 _ e => k3.extBut _ _ h1 (k2 _ _ h3 (k1.extBut _ _ h1 e)))))
theorem zipMake (l1 l2 : Addr) (vs us : Array Value) :
    Meets (Builtin.«zip.__new__» ⟨[.type "zip", .ref l1, .ref l2], []⟩) (fun _ R s => s.heap.IsTuple l1 vs /\ s.heap.IsTuple l2 us /\
      ∀ h0 h1 h2 h3 h4 h5, h0 = s.heap -> h1 = h0.push { cls := .type "tuple_iterator", data := .fields #[.ref l1, .int 0 0] } -> h2 = h1.push { cls := .type "tuple_iterator", data := .fields #[.ref l2, .int 0 0] } -> h3 = h2.push { cls := .type "tuple", data := .seq #[.ref h0.objs.size, .ref h1.objs.size] } ->
        h4 = h3.push { cls := .type "tuple", data := .seq #[.none, .none] } -> h5 = h4.push { cls := .type "zip", data := .fields #[.none, .bool false, .bool false, .ref h2.objs.size, .ref h3.objs.size] } -> R (.ok (.ret (.ref h4.objs.size))) { s with heap := h5 }) :=
  .of_wp fun prog w A R s h => by
    obtain ⟨hp, g, d, tk, os⟩ := s
    obtain ⟨hl1, hl2, h⟩ := h
    have hsub := sub_zip
    have hL1 : Heap.IsTuple (Shared.heap ⟨hp, g, d, tk, os⟩) l1 vs := hl1
    have hL2 : Heap.IsTuple (Shared.heap ⟨hp.push { cls := .type "tuple_iterator", data := .fields #[.ref l1, .int 0 0] }, g, d, tk, os⟩) l2 us := Heap.IsTuple.push hl2 _
    have h := h _ _ _ _ _ _ rfl rfl rfl rfl rfl rfl
    wp_walk using wpAny_pyIter_tuple hL1, wpAny_pyIter_tuple hL2
    exact ⟨_, rfl, h⟩
theorem zipCall {l1 l2 : Addr} {vs us : Array Value} {Q : Value -> Shared -> Prop} (g1 : s.heap.IsTuple l1 vs) (g2 : s.heap.IsTuple l2 us)
    (q : ∀ h', ZSt h' (s.heap.objs.size + 4) (s.heap.objs.size + 2) (s.heap.objs.size + 3) s.heap.objs.size (s.heap.objs.size + 1) l1 l2 0 vs us .none -> (∀ c o, s.heap.get? c = some o -> h'.get? c = some o) -> Q (.ref (s.heap.objs.size + 4)) { s with heap := h' }) :
    wpAny (model prog w) A (call (.type "zip") [.ref l1, .ref l2]) Q E s := by
  refine callType_new F.called_zip (by decide) (F.typeCall_zip_2 _ _) (F.newCall_zip_2 _ _) (fun obj => F.args_object_init_3 obj _ _) F.entry_zip_new (zipMake l1 l2 vs us) ⟨g1, g2, fun h0 h1 h2 h3 h4 h5 e0 e1 e2 e3 e4 e5 => ?_⟩
  have s1 : h1.objs.size = h0.objs.size + 1 := by rw [e1]; exact Heap.size_push ..
  have s2 : h2.objs.size = h0.objs.size + 2 := by rw [e2, Heap.size_push, s1]
  have s3 : h3.objs.size = h0.objs.size + 3 := by rw [e3, Heap.size_push, s2]
  have s4 : h4.objs.size = h0.objs.size + 4 := by rw [e4, Heap.size_push, s3]
  have k1 : ∀ c o, h0.get? c = some o -> h1.get? c = some o := fun c o e => by rw [e1]; exact Heap.get?_push_of_some _ e
  have k2 : ∀ c o, h1.get? c = some o -> h2.get? c = some o := fun c o e => by rw [e2]; exact Heap.get?_push_of_some _ e
  have k3 : ∀ c o, h2.get? c = some o -> h3.get? c = some o := fun c o e => by rw [e3]; exact Heap.get?_push_of_some _ e
  have k4 : ∀ c o, h3.get? c = some o -> h4.get? c = some o := fun c o e => by rw [e4]; exact Heap.get?_push_of_some _ e
  have k5 : ∀ c o, h4.get? c = some o -> h5.get? c = some o := fun c o e => by rw [e5]; exact Heap.get?_push_of_some _ e
  have p5 : h5.get? h4.objs.size = some { cls := .type "zip", data := .fields #[.none, .bool false, .bool false, .ref h2.objs.size, .ref h3.objs.size] } := by rw [e5]; exact Heap.get?_push_size _ rfl
  have p4 : h5.get? h3.objs.size = some { cls := .type "tuple", data := .seq #[.none, .none] } := k5 _ _ (by rw [e4]; exact Heap.get?_push_size _ rfl)
  have p3 : h5.get? h2.objs.size = some { cls := .type "tuple", data := .seq #[.ref h0.objs.size, .ref h1.objs.size] } := k5 _ _ (k4 _ _ (by rw [e3]; exact Heap.get?_push_size _ rfl))
  have p2 : h5.get? h1.objs.size = some { cls := .type "tuple_iterator", data := .fields #[.ref l2, .int 0 0] } := k5 _ _ (k4 _ _ (k3 _ _ (by rw [e2]; exact Heap.get?_push_size _ rfl)))
  have p1 : h5.get? h0.objs.size = some { cls := .type "tuple_iterator", data := .fields #[.ref l1, .int 0 0] } := k5 _ _ (k4 _ _ (k3 _ _ (k2 _ _ (by rw [e1]; exact Heap.get?_push_size _ rfl))))
  have kk : ∀ c o, h0.get? c = some o -> h5.get? c = some o := fun c o e => k5 _ _ (k4 _ _ (k3 _ _ (k2 _ _ (k1 _ _ e))))
  rw [s1] at p2 p3
  rw [s2] at p3 p5
  rw [s3] at p4 p5
  rw [s4] at p5 ⊢
  subst e0
  exact ⟨⟨_, p5, rfl⟩, q h5 ⟨p5, p3, ⟨_, _, p4⟩, ⟨_, p1, rfl, rfl⟩, ⟨_, p2, rfl, rfl⟩, tpAt g1 fun o e => kk _ _ e, tpAt g2 fun o e => kk _ _ e⟩ kk⟩
end
def rZip (xs ys : List V) : Nat -> List V -> Prop := fun i vs => ∃ x y, xs[i]? = some x /\ ys[i]? = some y /\ vs = [x, y]
theorem turn_zipT {P : Program} {w : World} {K : PySem.W.Frag} {elts : List Expr} {m : Nat} {pos : Pos} {z TI TO i1 i2 t1 t2 : Addr} {xs ys : List V} (D : ZAp z TI TO i1 i2 t1 t2) (hl : ys.length = xs.length) :
    Turn P w K (.Tuple elts m pos) (ItW xs.length (fun H => SqT K H t1 xs /\ SqT K H t2 ys) (rZip xs ys)) [z, TI, TO, i1, i2] z (fun i h => IsZip h z TI TO .none /\ IsPair h TI (.ref i1) (.ref i2) /\ (∃ a b, IsPair h TO a b) /\ h.IsTupleIter i1 t1 i /\ h.IsTupleIter i2 t2 i) where
  mem := by simp
  obj := fun i h ⟨zz, ti, ⟨a, b, to⟩, ⟨o1, h1, c1, d1⟩, ⟨o2, h2, c2, d2⟩⟩ c hc => by
    simp only [List.mem_cons, List.mem_nil_iff, or_false] at hc
    rcases hc with rfl | rfl | rfl | rfl | rfl
    · exact ⟨_, zz, fun v q => by cases q⟩
    · exact ⟨_, ti, fun v q => by cases q⟩
    · exact ⟨_, to, fun v q => by cases q⟩
    · exact ⟨o1, h1, fun v q => by rw [d1] at q; cases q⟩
    · exact ⟨o2, h2, fun v q => by rw [d2] at q; cases q⟩
  keep := fun i h h' ⟨zz, ti, ⟨a, b, to⟩, n1, n2⟩ k => ⟨k z (by simp) _ zz, k TI (by simp) _ ti, ⟨a, b, k TO (by simp) _ to⟩, itAt n1 fun o e => k i1 (by simp) o e, itAt n2 fun o e => k i2 (by simp) o e⟩
  item := by
    intro X hP hw hK hc i pins s σ H E I hf ht hg
    obtain ⟨hi, q1, q2⟩ := hg
    subst hP hw hK
    obtain ⟨vs, r1, p1, _⟩ := I.tuple q1
    obtain ⟨us, r2, p2, _⟩ := I.tuple q2
    obtain ⟨x, hx⟩ := some_of_lt hi
    obtain ⟨y, hy⟩ := some_of_lt (show i < ys.length by rw [hl]; exact hi)
    obtain ⟨x', hx', rx⟩ := r1.get hx
    obtain ⟨y', hy', ry⟩ := r2.get hy
    obtain ⟨zz, ti, to, n1, n2⟩ := ht
    refine zipNext_yes (x := x') (y := y') D ⟨zz, ti, to, n1, n2, p1, p2⟩ (by simpa using hx') (by simpa using hy') fun h1 S1 pr k1 => ?_
    refine ⟨_, rfl, wpAny_letOwnedTupleGo_zip S1.zz fun h2 z2 k2 => ?_⟩
    have lt : ∀ {c : Addr} {o : Obj}, s.heap.get? c = some o -> s.heap.objs.size ≠ c := fun e => Nat.ne_of_gt (Heap.lt_size e)
    have e2 : ∀ c o, c ∉ [z, TO, i1, i2] -> s.heap.get? c = some o -> h2.get? c = some o := fun c o hc e => by
      simp only [List.mem_cons, List.mem_nil_iff, or_false, not_or] at hc
      exact k2.extBut _ _ hc.1 (k1 c o hc.1 hc.2.1 hc.2.2.1 hc.2.2.2 e)
    have tp : IsTup h2 s.heap.objs.size [x', y'].toArray := ⟨_, k2.extBut _ _ (lt zz) pr, rfl, _, rfl⟩
    refine ⟨.ref s.heap.objs.size, upd H s.heap.objs.size (.tup [x, y]), I.turnedT (wr := [z, TO, i1, i2]) e2 (fun b hb => hf b ?_) (Nat.le_refl _) (by show 2 <= sizeLine; decide) (.cons rx (.cons ry .nil)) tp, rfl, ⟨_, _, rfl, I.hok.fresh (Nat.le_refl _), ⟨x, y, hx, hy, rfl⟩, rfl⟩, ?_, fun b hb => ?_⟩
    · simp only [List.mem_cons, List.mem_nil_iff, or_false] at hb ⊢
      rcases hb with h | h | h | h
      · exact .inl h
      · exact .inr (.inr (.inl h))
      · exact .inr (.inr (.inr (.inl h)))
      · exact .inr (.inr (.inr (.inr h)))
    · obtain ⟨a, b, to1⟩ := S1.to
      exact ⟨z2, k2.extBut _ _ D.a1 S1.ti, ⟨a, b, k2.extBut _ _ D.a2 to1⟩, itAt S1.n1 fun o e => k2.extBut _ _ D.a3 e, itAt S1.n2 fun o e => k2.extBut _ _ D.a4 e⟩
    · obtain ⟨a', b', to0⟩ := to
      obtain ⟨o1, ho1, _⟩ := n1
      obtain ⟨o2, ho2, _⟩ := n2
      have f := (hf b hb).1
      simp only [List.mem_cons, List.mem_nil_iff, or_false] at hb
      rw [upd_ne]
      · exact f
      · rcases hb with rfl | rfl | rfl | rfl | rfl
        · exact (lt zz).symm
        · exact (lt ti).symm
        · exact (lt to0).symm
        · exact (lt ho1).symm
        · exact (lt ho2).symm
  done := by
    intro X hP hw hK hc i pins s σ H E I hf ht hg
    obtain ⟨hi, q1, q2⟩ := hg
    subst hP hw hK hi
    obtain ⟨vs, r1, p1, _⟩ := I.tuple q1
    obtain ⟨us, r2, p2, _⟩ := I.tuple q2
    obtain ⟨zz, ti, to, n1, n2⟩ := ht
    have hl1 := r1.length
    refine zipNext_no (I.ok.hd hc) D ⟨zz, ti, to, n1, n2, p1, p2⟩ (by simp; omega) fun h1 k1 => ⟨rfl, I.turnedL (t' := s.toks) (wr := [z, TO, i1, i2]) (fun c o hc e => ?_) fun b hb => hf b ?_⟩
    · simp only [List.mem_cons, List.mem_nil_iff, or_false, not_or] at hc
      exact k1 c o hc.1 hc.2.1 hc.2.2.1 hc.2.2.2 e
    · simp only [List.mem_cons, List.mem_nil_iff, or_false] at hb ⊢
      rcases hb with h | h | h | h
      · exact .inl h
      · exact .inr (.inr (.inl h))
      · exact .inr (.inr (.inr (.inl h)))
      · exact .inr (.inr (.inr (.inr h)))
  self := fun _ _ _ _ _ st h => wpAny_pyIter_zip st.1 h
section
variable {X : Cx} {elts : List Expr} {k : Nat} {tpos : Pos}
def iZip (K : PySem.W.Frag) (ta : TA) : TI := fun σ H R => ta σ H fun vs H1 => ∃ a b xs ys, vs = [.ref a, .ref b] /\ SqT K H1 a xs /\ SqT K H1 b ys /\ ys.length = xs.length /\ R (ItW xs.length (fun H => SqT K H a xs /\ SqT K H b ys) (rZip xs ys)) H1
theorem pi_zipT {a b : Expr} {ta : TA} {p pos : Pos} (hg : Gl X "zip") (hm : X.mg "zip" = none) (ha : PA X [a, b] ta) (hs : starEach [a, b] X.env = [(false, eval a X.env), (false, eval b X.env)] := by rfl) (hs2 : starEach [b] X.env = [(false, eval b X.env)] := by rfl) :
    PI X (.Tuple elts k tpos) (.Call (.Name "zip" p) [a, b] [] pos) (iZip X.K ta) := by
  intro pins s σ H R I h
  refine Call_ (ld_blt I hg hm boot_zip (PyProof.Rows.callWith_type1 (thn (ha pos pins s σ H _ I h) fun us s1 ⟨vs, H1, I1, r1, q1⟩ => ?_) (by rw [hs, hs2]) (by rw [hs2]; rfl)))
  obtain ⟨a, b, xs, ys, e, h1, h2, hl, q⟩ := q1
  subst e
  cases r1 with
  | cons r rr =>
    cases rr with
    | cons r' rr =>
      cases rr
      cases r
      cases r'
      obtain ⟨vs1, _, p1, _⟩ := I1.tuple h1
      obtain ⟨vs2, _, p2, _⟩ := I1.tuple h2
      have la : a < s1.heap.objs.size := let ⟨_, e, _⟩ := p1; Heap.lt_size e
      have lb : b < s1.heap.objs.size := let ⟨_, e, _⟩ := p2; Heap.lt_size e
      refine zipCall (show s1.heap.IsTuple a vs1.toArray from p1) (show s1.heap.IsTuple b vs2.toArray from p2) fun h' S kp => wpAny_pyIter_zip S.zz ?_
      have I2 : Inv X pins σ H1 { s1 with heap := h' } := I1.kept (t' := s1.toks) kp
      refine ⟨s1.heap.objs.size + 4, [s1.heap.objs.size + 4, s1.heap.objs.size + 2, s1.heap.objs.size + 3, s1.heap.objs.size, s1.heap.objs.size + 1], _, _, H1, rfl, I2, turn_zipT (t1 := a) (t2 := b) ⟨?_, ?_, ?_, ?_, ?_, ?_, ?_, ?_, ?_, ?_, ?_, ?_, ?_, ?_, ?_, ?_, ?_, ?_⟩ hl, ⟨S.zz, S.ti, S.to, S.n1, S.n2⟩, ?fp, q⟩
      case fp =>
       intro b hb
       have hb' : s1.heap.objs.size <= b := by
        simp only [List.mem_cons, List.mem_nil_iff, or_false] at hb
        rcases hb with rfl | rfl | rfl | rfl | rfl
        · exact Nat.le_add_right _ _
        · exact Nat.le_add_right _ _
        · exact Nat.le_add_right _ _
        · exact Nat.le_refl _
        · exact Nat.le_add_right _ _
       exact I1.fpOk hb' (I1.hok.fresh hb')
      all_goals first
        | exact ndA (by omega)
        | exact Nat.ne_of_lt (Nat.lt_of_lt_of_le la (Nat.le_add_right _ _))
        | exact Nat.ne_of_lt (Nat.lt_of_lt_of_le lb (Nat.le_add_right _ _))
        | exact Nat.ne_of_lt la
        | exact Nat.ne_of_lt lb
theorem qi_zipT {a b : Expr} {ta : TA} {p pos : Pos} (hg : Gl X "zip") (hm : X.mg "zip" = none) (ha : QA X [a, b] ta) (hs : starEach [a, b] X.env = [(false, eval a X.env), (false, eval b X.env)] := by rfl) (hs2 : starEach [b] X.env = [(false, eval b X.env)] := by rfl) :
    QI X (.Tuple elts k tpos) (.Call (.Name "zip" p) [a, b] [] pos) (iZip X.K ta) := ⟨pi_zipT hg hm ha.h hs hs2⟩
end
end L2
namespace L2
open PySem PySem.Spec PyProof.Rows
end L2
namespace L2
open PySem PySem.Spec PyProof.Rows
section
variable {prog : Program} {w : World} {A : Around} {E : Value -> Shared -> Prop} {s : Shared}
end
section
variable {X : Cx} {elts : List Expr} {k : Nat} {tpos : Pos}
end
end L2
namespace K12
open PySem L2
set_option genInjectivity false
set_option genSizeOf false
theorem bd1 {K : PySem.W.Frag} {x qual : Str} {st : Stmt} {f : Addr} {fd : FuncData} {ps : List Str} (F : Fun K x qual st f fd) (hl : ps.length = 1) (h : ∀ (kV doc pm : Value) (an : Option Addr) (cdv ct : Value) (a : Value), bindArgs (PySem.W.fnOf x qual (defArgs st) (defBody st) (defScope st) .none kV doc pm an cdv ct) ⟨[a], []⟩ = pure (ps.zip [a])) : Binds K fd ps [] := F.binds fun kV doc pm an cdv ct us e => by
  rw [hl] at e
  match us, e with
  | [a], _ => exact h kV doc pm an cdv ct a
theorem bd2 {K : PySem.W.Frag} {x qual : Str} {st : Stmt} {f : Addr} {fd : FuncData} {ps : List Str} (F : Fun K x qual st f fd) (hl : ps.length = 2) (h : ∀ (kV doc pm : Value) (an : Option Addr) (cdv ct : Value) (a b : Value), bindArgs (PySem.W.fnOf x qual (defArgs st) (defBody st) (defScope st) .none kV doc pm an cdv ct) ⟨[a, b], []⟩ = pure (ps.zip [a, b])) : Binds K fd ps [] := F.binds fun kV doc pm an cdv ct us e => by
  rw [hl] at e
  match us, e with
  | [a, b], _ => exact h kV doc pm an cdv ct a b
theorem bd3 {K : PySem.W.Frag} {x qual : Str} {st : Stmt} {f : Addr} {fd : FuncData} {ps : List Str} (F : Fun K x qual st f fd) (hl : ps.length = 3) (h : ∀ (kV doc pm : Value) (an : Option Addr) (cdv ct : Value) (a b c : Value), bindArgs (PySem.W.fnOf x qual (defArgs st) (defBody st) (defScope st) .none kV doc pm an cdv ct) ⟨[a, b, c], []⟩ = pure (ps.zip [a, b, c])) : Binds K fd ps [] := F.binds fun kV doc pm an cdv ct us e => by
  rw [hl] at e
  match us, e with
  | [a, b, c], _ => exact h kV doc pm an cdv ct a b c
theorem bd4 {K : PySem.W.Frag} {x qual : Str} {st : Stmt} {f : Addr} {fd : FuncData} {ps : List Str} (F : Fun K x qual st f fd) (hl : ps.length = 4) (h : ∀ (kV doc pm : Value) (an : Option Addr) (cdv ct : Value) (a b c d : Value), bindArgs (PySem.W.fnOf x qual (defArgs st) (defBody st) (defScope st) .none kV doc pm an cdv ct) ⟨[a, b, c, d], []⟩ = pure (ps.zip [a, b, c, d])) : Binds K fd ps [] := F.binds fun kV doc pm an cdv ct us e => by
  rw [hl] at e
  match us, e with
  | [a, b, c, d], _ => exact h kV doc pm an cdv ct a b c d
def top (i : Nat) : Stmt := PySem.Challenge.pw_leafsay_k12_let_by.main.body.getD i (.Pass ⟨0, 0, 0, 0⟩)
abbrev s_qpickedkind : Stmt := top 9
abbrev s_qmadekind : Stmt := top 10
abbrev s_qinnerterms : Stmt := top 14
abbrev s_qparts : Stmt := top 15
abbrev s_qdepth : Stmt := top 16
abbrev s_qnamed : Stmt := top 17
abbrev s_qtoldkind : Stmt := top 18
abbrev s_qkindof : Stmt := top 19
abbrev s_qrowof : Stmt := top 26
abbrev s_qsignrow : Stmt := top 27
abbrev s_qsignsabout : Stmt := top 28
abbrev s_qvaluekinds : Stmt := top 29
abbrev s_qduevalues : Stmt := top 30
abbrev s_qchecksizes : Stmt := top 31
abbrev s_qcheckformsize : Stmt := top 32
abbrev s_qcheckapart : Stmt := top 33
abbrev s_qchecknames : Stmt := top 34
abbrev s_qcheckformnames : Stmt := top 35
abbrev s_qcheckrules : Stmt := top 36
abbrev s_qcheckkinds : Stmt := top 37
abbrev s_qletby : Stmt := top 38
abbrev s_qdeck : Stmt := top 40
abbrev s_qword : Stmt := top 41
abbrev s_qseen : Stmt := top 42
abbrev s_qbase : Stmt := top 43
abbrev s_qterm : Stmt := top 44
abbrev s_qsigns : Stmt := top 45
abbrev s_qvalues : Stmt := top 46
abbrev s_qform : Stmt := top 47
abbrev s_qgrammar : Stmt := top 48
abbrev s_qwhole : Stmt := top 49
abbrev s_qsame : Stmt := top 50
abbrev s_qsum : Stmt := top 51
abbrev s_qwide : Stmt := top 52
abbrev s_qdeep : Stmt := top 53
abbrev s_qplaces : Stmt := top 54
abbrev s_qwithform : Stmt := top 55
abbrev s_qwithrule : Stmt := top 56
abbrev s_qkindat : Stmt := top 57
abbrev s_qedged : Stmt := top 58
abbrev s_qturned : Stmt := top 59
abbrev s_law : Stmt := top 60
theorem sc_qpickedkind : FnScope ["kinds"] ["kinds"] (defScope s_qpickedkind) := ⟨rfl, rfl, rfl, by decide +kernel, rfl, by decide +kernel, by decide +kernel⟩
theorem sc_qmadekind : FnScope ["deed", "kinds"] ["deed", "kinds"] (defScope s_qmadekind) := ⟨rfl, rfl, rfl, by decide +kernel, rfl, by decide +kernel, by decide +kernel⟩
theorem sc_qinnerterms : FnScope ["term"] ["term"] (defScope s_qinnerterms) := ⟨rfl, rfl, rfl, by decide +kernel, rfl, by decide +kernel, by decide +kernel⟩
theorem sc_qparts : FnScope ["term"] ["term"] (defScope s_qparts) := ⟨rfl, rfl, rfl, by decide +kernel, rfl, by decide +kernel, by decide +kernel⟩
theorem sc_qdepth : FnScope ["term"] ["term"] (defScope s_qdepth) := ⟨rfl, rfl, rfl, by decide +kernel, rfl, by decide +kernel, by decide +kernel⟩
theorem sc_qnamed : FnScope ["term", "found", "inner", "pair"] ["term"] (defScope s_qnamed) := ⟨rfl, rfl, rfl, by decide +kernel, rfl, by decide +kernel, by decide +kernel⟩
theorem sc_qtoldkind : FnScope ["pair", "kinds"] ["pair", "kinds"] (defScope s_qtoldkind) := ⟨rfl, rfl, rfl, by decide +kernel, rfl, by decide +kernel, by decide +kernel⟩
theorem sc_qkindof : FnScope ["term", "kinds", "sort"] ["term", "kinds"] (defScope s_qkindof) := ⟨rfl, rfl, rfl, by decide +kernel, rfl, by decide +kernel, by decide +kernel⟩
theorem sc_qrowof : FnScope ["rows", "name", "row"] ["rows", "name"] (defScope s_qrowof) := ⟨rfl, rfl, rfl, by decide +kernel, rfl, by decide +kernel, by decide +kernel⟩
theorem sc_qsignrow : FnScope ["grammar", "name"] ["grammar", "name"] (defScope s_qsignrow) := ⟨rfl, rfl, rfl, by decide +kernel, rfl, by decide +kernel, by decide +kernel⟩
theorem sc_qsignsabout : FnScope ["grammar", "form"] ["grammar", "form"] (defScope s_qsignsabout) := ⟨rfl, rfl, rfl, by decide +kernel, rfl, by decide +kernel, by decide +kernel⟩
theorem sc_qvaluekinds : FnScope ["grammar", "form", "kinds", "k", "sign", "name", "kind"] ["grammar", "form"] (defScope s_qvaluekinds) := ⟨rfl, rfl, rfl, by decide +kernel, rfl, by decide +kernel, by decide +kernel⟩
theorem sc_qduevalues : FnScope ["grammar", "form", "due", "k", "sign", "ruled"] ["grammar", "form"] (defScope s_qduevalues) := ⟨rfl, rfl, rfl, by decide +kernel, rfl, by decide +kernel, by decide +kernel⟩
theorem sc_qchecksizes : FnScope ["grammar", "signs", "forms", "name", "downs", "ups", "form"] ["grammar"] (defScope s_qchecksizes) := ⟨rfl, rfl, rfl, by decide +kernel, rfl, by decide +kernel, by decide +kernel⟩
theorem sc_qcheckformsize : FnScope ["form", "form_name", "k", "name", "term"] ["form"] (defScope s_qcheckformsize) := ⟨rfl, rfl, rfl, by decide +kernel, rfl, by decide +kernel, by decide +kernel⟩
theorem sc_qcheckapart : FnScope ["rows", "names"] ["rows"] (defScope s_qcheckapart) := ⟨rfl, rfl, rfl, by decide +kernel, rfl, by decide +kernel, by decide +kernel⟩
theorem sc_qchecknames : FnScope ["grammar", "sign", "form"] ["grammar"] (defScope s_qchecknames) := ⟨rfl, rfl, rfl, by decide +kernel, rfl, by decide +kernel, by decide +kernel⟩
theorem sc_qcheckformnames : FnScope ["form", "kinds", "form_name", "k", "name", "term", "pair"] ["form", "kinds"] (defScope s_qcheckformnames) := ⟨rfl, rfl, rfl, by decide +kernel, rfl, by decide +kernel, by decide +kernel⟩
theorem sc_qcheckrules : FnScope ["grammar", "form", "form_name", "ruled"] ["grammar"] (defScope s_qcheckrules) := ⟨rfl, rfl, rfl, by decide +kernel, rfl, by decide +kernel, by decide +kernel⟩
theorem sc_qcheckkinds : FnScope ["grammar", "form", "kinds", "k", "name", "term"] ["grammar"] (defScope s_qcheckkinds) := ⟨rfl, rfl, rfl, by decide +kernel, rfl, by decide +kernel, by decide +kernel⟩
theorem sc_qletby : FnScope ["grammar"] ["grammar"] (defScope s_qletby) := ⟨rfl, rfl, rfl, by decide +kernel, rfl, by decide +kernel, by decide +kernel⟩
theorem sc_qdeck : FnScope ["_law_script", "_law_many", "_law_found", "_law_seed", "_law_cell"] ["_law_script", "_law_many"] (defScope s_qdeck) := ⟨rfl, rfl, rfl, by decide +kernel, rfl, by decide +kernel, by decide +kernel⟩
theorem sc_qword : FnScope ["_law_cell", "_law_k", "_law_letters", "_law_words", "_law_long", "_law_at", "_law_fill"] ["_law_cell", "_law_k"] (defScope s_qword) := ⟨rfl, rfl, rfl, by decide +kernel, rfl, by decide +kernel, by decide +kernel⟩
theorem sc_qseen : FnScope ["_law_kind", "_law_one", "_law_spot"] ["_law_kind", "_law_one"] (defScope s_qseen) := ⟨rfl, rfl, rfl, by decide +kernel, rfl, by decide +kernel, by decide +kernel⟩
theorem sc_qbase : FnScope ["_law_kind", "_law_cell", "_law_plain"] ["_law_kind", "_law_cell"] (defScope s_qbase) := ⟨rfl, rfl, rfl, by decide +kernel, rfl, by decide +kernel, by decide +kernel⟩
theorem sc_qterm : FnScope ["_law_kind", "_law_some", "_law_cell", "_law_made", "_law_one", "_law_pair", "_law_deed"] ["_law_kind", "_law_some", "_law_cell"] (defScope s_qterm) := ⟨rfl, rfl, rfl, by decide +kernel, rfl, by decide +kernel, by decide +kernel⟩
theorem sc_qsigns : FnScope ["_law_deck_here", "_law_word_here", "_law_common", "_law_kinds", "_law_found", "_law_k", "_law_cell", "_law_near", "_law_downs", "_law_many", "_law_ups"] ["_law_deck_here", "_law_word_here"] (defScope s_qsigns) := ⟨rfl, rfl, rfl, by decide +kernel, rfl, by decide +kernel, by decide +kernel⟩
theorem sc_qvalues : FnScope ["_law_signs_here", "_law_at", "_law_found", "_law_k", "_law_side", "_law_name", "_law_kind"] ["_law_signs_here", "_law_at"] (defScope s_qvalues) := ⟨rfl, rfl, rfl, by decide +kernel, rfl, by decide +kernel, by decide +kernel⟩
theorem sc_qform : FnScope ["_law_signs_here", "_law_name", "_law_at", "_law_deck_here", "_law_some", "_law_rules", "_law_one", "_law_cell", "_law_drawn", "_law_turn"] ["_law_signs_here", "_law_name", "_law_at", "_law_deck_here"] (defScope s_qform) := ⟨rfl, rfl, rfl, by decide +kernel, rfl, by decide +kernel, by decide +kernel⟩
theorem sc_qgrammar : FnScope ["_law_deck_here", "_law_word_here", "_law_signs_here", "_law_room", "_law_forms", "_law_k", "_law_cell", "_law_at"] ["_law_deck_here"] (defScope s_qgrammar) := ⟨rfl, rfl, rfl, by decide +kernel, rfl, by decide +kernel, by decide +kernel⟩
theorem sc_qwhole : FnScope ["_law_found"] ["_law_found"] (defScope s_qwhole) := ⟨rfl, rfl, rfl, by decide +kernel, rfl, by decide +kernel, by decide +kernel⟩
theorem sc_qsame : FnScope ["_law_found", "_law_due", "_law_one", "_law_other"] ["_law_found", "_law_due"] (defScope s_qsame) := ⟨rfl, rfl, rfl, by decide +kernel, rfl, by decide +kernel, by decide +kernel⟩
theorem sc_qsum : FnScope ["_law_leaves"] ["_law_leaves"] (defScope s_qsum) := ⟨rfl, rfl, rfl, by decide +kernel, rfl, by decide +kernel, by decide +kernel⟩
theorem sc_qwide : FnScope ["_law_kind", "_law_many"] ["_law_kind", "_law_many"] (defScope s_qwide) := ⟨rfl, rfl, rfl, by decide +kernel, rfl, by decide +kernel, by decide +kernel⟩
theorem sc_qdeep : FnScope ["_law_kind", "_law_level", "_law_made", "_law_k"] ["_law_kind", "_law_level"] (defScope s_qdeep) := ⟨rfl, rfl, rfl, by decide +kernel, rfl, by decide +kernel, by decide +kernel⟩
theorem sc_qplaces : FnScope ["_law_grammar_here", "_law_found", "_law_f", "_law_r"] ["_law_grammar_here"] (defScope s_qplaces) := ⟨rfl, rfl, rfl, by decide +kernel, rfl, by decide +kernel, by decide +kernel⟩
theorem sc_qwithform : FnScope ["_law_grammar_here", "_law_f", "_law_form_here"] ["_law_grammar_here", "_law_f", "_law_form_here"] (defScope s_qwithform) := ⟨rfl, rfl, rfl, by decide +kernel, rfl, by decide +kernel, by decide +kernel⟩
theorem sc_qwithrule : FnScope ["_law_grammar_here", "_law_place", "_law_rule", "_law_form_here", "_law_rules"] ["_law_grammar_here", "_law_place", "_law_rule"] (defScope s_qwithrule) := ⟨rfl, rfl, rfl, by decide +kernel, rfl, by decide +kernel, by decide +kernel⟩
theorem sc_qkindat : FnScope ["_law_grammar_here", "_law_form_here", "_law_k", "_law_name", "_law_sign", "_law_value", "_law_kind"] ["_law_grammar_here", "_law_form_here", "_law_k", "_law_name"] (defScope s_qkindat) := ⟨rfl, rfl, rfl, by decide +kernel, rfl, by decide +kernel, by decide +kernel⟩
theorem sc_qedged : FnScope ["_law_grammar_here", "_law_cell", "_law_some", "_law_place", "_law_form_here", "_law_k", "_law_name", "_law_term_here", "_law_kind"] ["_law_grammar_here", "_law_cell"] (defScope s_qedged) := ⟨rfl, rfl, rfl, by decide +kernel, rfl, by decide +kernel, by decide +kernel⟩
theorem sc_qturned : FnScope ["_law_grammar_here", "_law_forms"] ["_law_grammar_here"] (defScope s_qturned) := ⟨rfl, rfl, rfl, by decide +kernel, rfl, by decide +kernel, by decide +kernel⟩
theorem sc_law : FnScope ["_law_script", "_law_deck_here", "_law_cell", "_law_grammar_here", "_law_turned_here"] ["_law_script"] (defScope s_law) := ⟨rfl, rfl, rfl, by decide +kernel, rfl, by decide +kernel, by decide +kernel⟩
structure Adr where
  qpickedkind : Addr
  d_qpickedkind : FuncData
  qmadekind : Addr
  d_qmadekind : FuncData
  qinnerterms : Addr
  d_qinnerterms : FuncData
  qparts : Addr
  d_qparts : FuncData
  qdepth : Addr
  d_qdepth : FuncData
  qnamed : Addr
  d_qnamed : FuncData
  qtoldkind : Addr
  d_qtoldkind : FuncData
  qkindof : Addr
  d_qkindof : FuncData
  qrowof : Addr
  d_qrowof : FuncData
  qsignrow : Addr
  d_qsignrow : FuncData
  qsignsabout : Addr
  d_qsignsabout : FuncData
  qvaluekinds : Addr
  d_qvaluekinds : FuncData
  qduevalues : Addr
  d_qduevalues : FuncData
  qchecksizes : Addr
  d_qchecksizes : FuncData
  qcheckformsize : Addr
  d_qcheckformsize : FuncData
  qcheckapart : Addr
  d_qcheckapart : FuncData
  qchecknames : Addr
  d_qchecknames : FuncData
  qcheckformnames : Addr
  d_qcheckformnames : FuncData
  qcheckrules : Addr
  d_qcheckrules : FuncData
  qcheckkinds : Addr
  d_qcheckkinds : FuncData
  qletby : Addr
  d_qletby : FuncData
  qdeck : Addr
  d_qdeck : FuncData
  qword : Addr
  d_qword : FuncData
  qseen : Addr
  d_qseen : FuncData
  qbase : Addr
  d_qbase : FuncData
  qterm : Addr
  d_qterm : FuncData
  qsigns : Addr
  d_qsigns : FuncData
  qvalues : Addr
  d_qvalues : FuncData
  qform : Addr
  d_qform : FuncData
  qgrammar : Addr
  d_qgrammar : FuncData
  qwhole : Addr
  d_qwhole : FuncData
  qsame : Addr
  d_qsame : FuncData
  qsum : Addr
  d_qsum : FuncData
  qwide : Addr
  d_qwide : FuncData
  qdeep : Addr
  d_qdeep : FuncData
  qplaces : Addr
  d_qplaces : FuncData
  qwithform : Addr
  d_qwithform : FuncData
  qwithrule : Addr
  d_qwithrule : FuncData
  qkindat : Addr
  d_qkindat : FuncData
  qedged : Addr
  d_qedged : FuncData
  qturned : Addr
  d_qturned : FuncData
  law : Addr
  d_law : FuncData
  t_MOST_PARTS : Tok
  t_MOST_DEPTH : Tok
  t_MOST_SIGNS : Tok
  t_MOST_FORMS : Tok
  t_MOST_DOWNS : Tok
  t_MOST_UPS : Tok
  t_MOST_BRANCHES : Tok
  a_NEEDS : Addr
  NEEDS_0 : Addr
  NEEDS_1 : Addr
  NEEDS_2 : Addr
  NEEDS_3 : Addr
  NEEDS_4 : Addr
  NEEDS_5 : Addr
  NEEDS_6 : Addr
  NEEDS_7 : Addr
  NEEDS_8 : Addr
  NEEDS_9 : Addr
  NEEDS_10 : Addr
  a_MAKES : Addr
  MAKES_0 : Tok
  MAKES_1 : Tok
  MAKES_2 : Tok
  MAKES_3 : Tok
  MAKES_4 : Tok
  MAKES_5 : Tok
  MAKES_6 : Tok
  MAKES_7 : Tok
  MAKES_8 : Tok
  MAKES_9 : Tok
  MAKES_10 : Tok
structure Tx (K : PySem.W.Frag) (w : World) (mg : Str -> Option Value) (T : Adr) : Prop where
  F_qpickedkind : Fun K "picked_kind" "picked_kind" s_qpickedkind T.qpickedkind T.d_qpickedkind
  b_qpickedkind : Binds K T.d_qpickedkind ["kinds"] []
  m_qpickedkind : mg "picked_kind" = some (.ref T.qpickedkind)
  F_qmadekind : Fun K "made_kind" "made_kind" s_qmadekind T.qmadekind T.d_qmadekind
  b_qmadekind : Binds K T.d_qmadekind ["deed", "kinds"] []
  m_qmadekind : mg "made_kind" = some (.ref T.qmadekind)
  F_qinnerterms : Fun K "inner_terms" "inner_terms" s_qinnerterms T.qinnerterms T.d_qinnerterms
  b_qinnerterms : Binds K T.d_qinnerterms ["term"] []
  m_qinnerterms : mg "inner_terms" = some (.ref T.qinnerterms)
  F_qparts : Fun K "parts" "parts" s_qparts T.qparts T.d_qparts
  b_qparts : Binds K T.d_qparts ["term"] []
  m_qparts : mg "parts" = some (.ref T.qparts)
  F_qdepth : Fun K "depth" "depth" s_qdepth T.qdepth T.d_qdepth
  b_qdepth : Binds K T.d_qdepth ["term"] []
  m_qdepth : mg "depth" = some (.ref T.qdepth)
  F_qnamed : Fun K "named" "named" s_qnamed T.qnamed T.d_qnamed
  b_qnamed : Binds K T.d_qnamed ["term"] []
  m_qnamed : mg "named" = some (.ref T.qnamed)
  F_qtoldkind : Fun K "told_kind" "told_kind" s_qtoldkind T.qtoldkind T.d_qtoldkind
  b_qtoldkind : Binds K T.d_qtoldkind ["pair", "kinds"] []
  m_qtoldkind : mg "told_kind" = some (.ref T.qtoldkind)
  F_qkindof : Fun K "kind_of" "kind_of" s_qkindof T.qkindof T.d_qkindof
  b_qkindof : Binds K T.d_qkindof ["term", "kinds"] []
  m_qkindof : mg "kind_of" = some (.ref T.qkindof)
  F_qrowof : Fun K "row_of" "row_of" s_qrowof T.qrowof T.d_qrowof
  b_qrowof : Binds K T.d_qrowof ["rows", "name"] []
  m_qrowof : mg "row_of" = some (.ref T.qrowof)
  F_qsignrow : Fun K "sign_row" "sign_row" s_qsignrow T.qsignrow T.d_qsignrow
  b_qsignrow : Binds K T.d_qsignrow ["grammar", "name"] []
  m_qsignrow : mg "sign_row" = some (.ref T.qsignrow)
  F_qsignsabout : Fun K "signs_about" "signs_about" s_qsignsabout T.qsignsabout T.d_qsignsabout
  b_qsignsabout : Binds K T.d_qsignsabout ["grammar", "form"] []
  m_qsignsabout : mg "signs_about" = some (.ref T.qsignsabout)
  F_qvaluekinds : Fun K "value_kinds" "value_kinds" s_qvaluekinds T.qvaluekinds T.d_qvaluekinds
  b_qvaluekinds : Binds K T.d_qvaluekinds ["grammar", "form"] []
  m_qvaluekinds : mg "value_kinds" = some (.ref T.qvaluekinds)
  F_qduevalues : Fun K "due_values" "due_values" s_qduevalues T.qduevalues T.d_qduevalues
  b_qduevalues : Binds K T.d_qduevalues ["grammar", "form"] []
  m_qduevalues : mg "due_values" = some (.ref T.qduevalues)
  F_qchecksizes : Fun K "check_sizes" "check_sizes" s_qchecksizes T.qchecksizes T.d_qchecksizes
  b_qchecksizes : Binds K T.d_qchecksizes ["grammar"] []
  m_qchecksizes : mg "check_sizes" = some (.ref T.qchecksizes)
  F_qcheckformsize : Fun K "check_form_size" "check_form_size" s_qcheckformsize T.qcheckformsize T.d_qcheckformsize
  b_qcheckformsize : Binds K T.d_qcheckformsize ["form"] []
  m_qcheckformsize : mg "check_form_size" = some (.ref T.qcheckformsize)
  F_qcheckapart : Fun K "check_apart" "check_apart" s_qcheckapart T.qcheckapart T.d_qcheckapart
  b_qcheckapart : Binds K T.d_qcheckapart ["rows"] []
  m_qcheckapart : mg "check_apart" = some (.ref T.qcheckapart)
  F_qchecknames : Fun K "check_names" "check_names" s_qchecknames T.qchecknames T.d_qchecknames
  b_qchecknames : Binds K T.d_qchecknames ["grammar"] []
  m_qchecknames : mg "check_names" = some (.ref T.qchecknames)
  F_qcheckformnames : Fun K "check_form_names" "check_form_names" s_qcheckformnames T.qcheckformnames T.d_qcheckformnames
  b_qcheckformnames : Binds K T.d_qcheckformnames ["form", "kinds"] []
  m_qcheckformnames : mg "check_form_names" = some (.ref T.qcheckformnames)
  F_qcheckrules : Fun K "check_rules" "check_rules" s_qcheckrules T.qcheckrules T.d_qcheckrules
  b_qcheckrules : Binds K T.d_qcheckrules ["grammar"] []
  m_qcheckrules : mg "check_rules" = some (.ref T.qcheckrules)
  F_qcheckkinds : Fun K "check_kinds" "check_kinds" s_qcheckkinds T.qcheckkinds T.d_qcheckkinds
  b_qcheckkinds : Binds K T.d_qcheckkinds ["grammar"] []
  m_qcheckkinds : mg "check_kinds" = some (.ref T.qcheckkinds)
  F_qletby : Fun K "let_by" "let_by" s_qletby T.qletby T.d_qletby
  b_qletby : Binds K T.d_qletby ["grammar"] []
  m_qletby : mg "let_by" = some (.ref T.qletby)
  F_qdeck : Fun K "_law_deck" "_law_deck" s_qdeck T.qdeck T.d_qdeck
  b_qdeck : Binds K T.d_qdeck ["_law_script", "_law_many"] []
  m_qdeck : mg "_law_deck" = some (.ref T.qdeck)
  F_qword : Fun K "_law_word" "_law_word" s_qword T.qword T.d_qword
  b_qword : Binds K T.d_qword ["_law_cell", "_law_k"] []
  m_qword : mg "_law_word" = some (.ref T.qword)
  F_qseen : Fun K "_law_seen" "_law_seen" s_qseen T.qseen T.d_qseen
  b_qseen : Binds K T.d_qseen ["_law_kind", "_law_one"] []
  m_qseen : mg "_law_seen" = some (.ref T.qseen)
  F_qbase : Fun K "_law_base" "_law_base" s_qbase T.qbase T.d_qbase
  b_qbase : Binds K T.d_qbase ["_law_kind", "_law_cell"] []
  m_qbase : mg "_law_base" = some (.ref T.qbase)
  F_qterm : Fun K "_law_term" "_law_term" s_qterm T.qterm T.d_qterm
  b_qterm : Binds K T.d_qterm ["_law_kind", "_law_some", "_law_cell"] []
  m_qterm : mg "_law_term" = some (.ref T.qterm)
  F_qsigns : Fun K "_law_signs" "_law_signs" s_qsigns T.qsigns T.d_qsigns
  b_qsigns : Binds K T.d_qsigns ["_law_deck_here", "_law_word_here"] []
  m_qsigns : mg "_law_signs" = some (.ref T.qsigns)
  F_qvalues : Fun K "_law_values" "_law_values" s_qvalues T.qvalues T.d_qvalues
  b_qvalues : Binds K T.d_qvalues ["_law_signs_here", "_law_at"] []
  m_qvalues : mg "_law_values" = some (.ref T.qvalues)
  F_qform : Fun K "_law_form" "_law_form" s_qform T.qform T.d_qform
  b_qform : Binds K T.d_qform ["_law_signs_here", "_law_name", "_law_at", "_law_deck_here"] []
  m_qform : mg "_law_form" = some (.ref T.qform)
  F_qgrammar : Fun K "_law_grammar" "_law_grammar" s_qgrammar T.qgrammar T.d_qgrammar
  b_qgrammar : Binds K T.d_qgrammar ["_law_deck_here"] []
  m_qgrammar : mg "_law_grammar" = some (.ref T.qgrammar)
  F_qwhole : Fun K "_law_whole" "_law_whole" s_qwhole T.qwhole T.d_qwhole
  b_qwhole : Binds K T.d_qwhole ["_law_found"] []
  m_qwhole : mg "_law_whole" = some (.ref T.qwhole)
  F_qsame : Fun K "_law_same" "_law_same" s_qsame T.qsame T.d_qsame
  b_qsame : Binds K T.d_qsame ["_law_found", "_law_due"] []
  m_qsame : mg "_law_same" = some (.ref T.qsame)
  F_qsum : Fun K "_law_sum" "_law_sum" s_qsum T.qsum T.d_qsum
  b_qsum : Binds K T.d_qsum ["_law_leaves"] []
  m_qsum : mg "_law_sum" = some (.ref T.qsum)
  F_qwide : Fun K "_law_wide" "_law_wide" s_qwide T.qwide T.d_qwide
  b_qwide : Binds K T.d_qwide ["_law_kind", "_law_many"] []
  m_qwide : mg "_law_wide" = some (.ref T.qwide)
  F_qdeep : Fun K "_law_deep" "_law_deep" s_qdeep T.qdeep T.d_qdeep
  b_qdeep : Binds K T.d_qdeep ["_law_kind", "_law_level"] []
  m_qdeep : mg "_law_deep" = some (.ref T.qdeep)
  F_qplaces : Fun K "_law_places" "_law_places" s_qplaces T.qplaces T.d_qplaces
  b_qplaces : Binds K T.d_qplaces ["_law_grammar_here"] []
  m_qplaces : mg "_law_places" = some (.ref T.qplaces)
  F_qwithform : Fun K "_law_with_form" "_law_with_form" s_qwithform T.qwithform T.d_qwithform
  b_qwithform : Binds K T.d_qwithform ["_law_grammar_here", "_law_f", "_law_form_here"] []
  m_qwithform : mg "_law_with_form" = some (.ref T.qwithform)
  F_qwithrule : Fun K "_law_with_rule" "_law_with_rule" s_qwithrule T.qwithrule T.d_qwithrule
  b_qwithrule : Binds K T.d_qwithrule ["_law_grammar_here", "_law_place", "_law_rule"] []
  m_qwithrule : mg "_law_with_rule" = some (.ref T.qwithrule)
  F_qkindat : Fun K "_law_kind_at" "_law_kind_at" s_qkindat T.qkindat T.d_qkindat
  b_qkindat : Binds K T.d_qkindat ["_law_grammar_here", "_law_form_here", "_law_k", "_law_name"] []
  m_qkindat : mg "_law_kind_at" = some (.ref T.qkindat)
  F_qedged : Fun K "_law_edged" "_law_edged" s_qedged T.qedged T.d_qedged
  b_qedged : Binds K T.d_qedged ["_law_grammar_here", "_law_cell"] []
  m_qedged : mg "_law_edged" = some (.ref T.qedged)
  F_qturned : Fun K "_law_turned" "_law_turned" s_qturned T.qturned T.d_qturned
  b_qturned : Binds K T.d_qturned ["_law_grammar_here"] []
  m_qturned : mg "_law_turned" = some (.ref T.qturned)
  F_law : Fun K "law" "law" s_law T.law T.d_law
  b_law : Binds K T.d_law ["_law_script"] []
  m_law : mg "law" = some (.ref T.law)
  z_bool : mg "bool" = none
  z_enumerate : mg "enumerate" = none
  z_int : mg "int" = none
  z_isinstance : mg "isinstance" = none
  z_len : mg "len" = none
  z_list : mg "list" = none
  z_max : mg "max" = none
  z_min : mg "min" = none
  z_range : mg "range" = none
  z_reversed : mg "reversed" = none
  z_set : mg "set" = none
  z_sorted : mg "sorted" = none
  z_str : mg "str" = none
  z_sum : mg "sum" = none
  z_tuple : mg "tuple" = none
  z_zip : mg "zip" = none
  c_MOST_PARTS : mg "MOST_PARTS" = some (.int 30 T.t_MOST_PARTS)
  c_MOST_DEPTH : mg "MOST_DEPTH" = some (.int 6 T.t_MOST_DEPTH)
  c_MOST_SIGNS : mg "MOST_SIGNS" = some (.int 6 T.t_MOST_SIGNS)
  c_MOST_FORMS : mg "MOST_FORMS" = some (.int 10 T.t_MOST_FORMS)
  c_MOST_DOWNS : mg "MOST_DOWNS" = some (.int 2 T.t_MOST_DOWNS)
  c_MOST_UPS : mg "MOST_UPS" = some (.int 2 T.t_MOST_UPS)
  c_MOST_BRANCHES : mg "MOST_BRANCHES" = some (.int 3 T.t_MOST_BRANCHES)
  c_NEEDS : mg "NEEDS" = some (.ref T.a_NEEDS)
  d_NEEDS : TDict K w T.a_NEEDS [(("add" : Str), Value.ref T.NEEDS_0), (("sub" : Str), Value.ref T.NEEDS_1), (("mul" : Str), Value.ref T.NEEDS_2), (("less" : Str), Value.ref T.NEEDS_3), (("glue" : Str), Value.ref T.NEEDS_4), (("show" : Str), Value.ref T.NEEDS_5), (("size" : Str), Value.ref T.NEEDS_6), (("put" : Str), Value.ref T.NEEDS_7), (("link" : Str), Value.ref T.NEEDS_8), (("at" : Str), Value.ref T.NEEDS_9), (("many" : Str), Value.ref T.NEEDS_10)]
  y_NEEDS : (T.a_NEEDS == sysModules) = false
  q_NEEDS_0 : ∀ H, SqT K H T.NEEDS_0 [V.str "num", V.str "num"]
  q_NEEDS_1 : ∀ H, SqT K H T.NEEDS_1 [V.str "num", V.str "num"]
  q_NEEDS_2 : ∀ H, SqT K H T.NEEDS_2 [V.str "num", V.str "num"]
  q_NEEDS_3 : ∀ H, SqT K H T.NEEDS_3 [V.str "num", V.str "num"]
  q_NEEDS_4 : ∀ H, SqT K H T.NEEDS_4 [V.str "text", V.str "text"]
  q_NEEDS_5 : ∀ H, SqT K H T.NEEDS_5 [V.str "num"]
  q_NEEDS_6 : ∀ H, SqT K H T.NEEDS_6 [V.str "text"]
  q_NEEDS_7 : ∀ H, SqT K H T.NEEDS_7 [V.str "row", V.str "num"]
  q_NEEDS_8 : ∀ H, SqT K H T.NEEDS_8 [V.str "row", V.str "row"]
  q_NEEDS_9 : ∀ H, SqT K H T.NEEDS_9 [V.str "row", V.str "num"]
  q_NEEDS_10 : ∀ H, SqT K H T.NEEDS_10 [V.str "row"]
  c_MAKES : mg "MAKES" = some (.ref T.a_MAKES)
  d_MAKES : TDict K w T.a_MAKES [(("add" : Str), Value.str "num" T.MAKES_0), (("sub" : Str), Value.str "num" T.MAKES_1), (("mul" : Str), Value.str "num" T.MAKES_2), (("less" : Str), Value.str "num" T.MAKES_3), (("glue" : Str), Value.str "text" T.MAKES_4), (("show" : Str), Value.str "text" T.MAKES_5), (("size" : Str), Value.str "num" T.MAKES_6), (("put" : Str), Value.str "row" T.MAKES_7), (("link" : Str), Value.str "row" T.MAKES_8), (("at" : Str), Value.str "num" T.MAKES_9), (("many" : Str), Value.str "num" T.MAKES_10)]
  y_MAKES : (T.a_MAKES == sysModules) = false
theorem tx_mk {K : PySem.W.Frag} {w : World} {h : Heap} {mg : Str -> Option Value} (X : K.In h) (G : h.Ns mainGlobals mg) {f0 f1 f2 f3 f4 f5 f6 f7 f8 f9 f10 f11 f12 f13 f14 f15 f16 f17 f18 f19 f20 f21 f22 f23 f24 f25 f26 f27 f28 f29 f30 f31 f32 f33 f34 f35 f36 f37 f38 f39 f40 f41 : Addr} {od0 an0 od1 an1 od2 an2 od3 an3 od4 an4 od5 an5 od6 an6 od7 an7 od8 an8 od9 an9 od10 an10 od11 an11 od12 an12 od13 an13 od14 an14 od15 an15 od16 an16 od17 an17 od18 an18 od19 an19 od20 an20 od21 an21 od22 an22 od23 an23 od24 an24 od25 an25 od26 an26 od27 an27 od28 an28 od29 an29 od30 an30 od31 an31 od32 an32 od33 an33 od34 an34 od35 an35 od36 an36 od37 an37 od38 an38 od39 an39 od40 an40 od41 an41 : Option Addr} {sl0 sl1 sl2 sl3 sl4 sl5 sl6 sl7 sl8 sl9 sl10 sl11 sl12 sl13 sl14 sl15 sl16 sl17 sl18 sl19 sl20 sl21 sl22 sl23 sl24 sl25 sl26 sl27 sl28 sl29 sl30 sl31 sl32 sl33 sl34 sl35 sl36 sl37 sl38 sl39 sl40 sl41 : Array (Option Value)}
    {oc0 kV0 dc0 pm0 cd0 ct0 oc1 kV1 dc1 pm1 cd1 ct1 oc2 kV2 dc2 pm2 cd2 ct2 oc3 kV3 dc3 pm3 cd3 ct3 oc4 kV4 dc4 pm4 cd4 ct4 oc5 kV5 dc5 pm5 cd5 ct5 oc6 kV6 dc6 pm6 cd6 ct6 oc7 kV7 dc7 pm7 cd7 ct7 oc8 kV8 dc8 pm8 cd8 ct8 oc9 kV9 dc9 pm9 cd9 ct9 oc10 kV10 dc10 pm10 cd10 ct10 oc11 kV11 dc11 pm11 cd11 ct11 oc12 kV12 dc12 pm12 cd12 ct12 oc13 kV13 dc13 pm13 cd13 ct13 oc14 kV14 dc14 pm14 cd14 ct14 oc15 kV15 dc15 pm15 cd15 ct15 oc16 kV16 dc16 pm16 cd16 ct16 oc17 kV17 dc17 pm17 cd17 ct17 oc18 kV18 dc18 pm18 cd18 ct18 oc19 kV19 dc19 pm19 cd19 ct19 oc20 kV20 dc20 pm20 cd20 ct20 oc21 kV21 dc21 pm21 cd21 ct21 oc22 kV22 dc22 pm22 cd22 ct22 oc23 kV23 dc23 pm23 cd23 ct23 oc24 kV24 dc24 pm24 cd24 ct24 oc25 kV25 dc25 pm25 cd25 ct25 oc26 kV26 dc26 pm26 cd26 ct26 oc27 kV27 dc27 pm27 cd27 ct27 oc28 kV28 dc28 pm28 cd28 ct28 oc29 kV29 dc29 pm29 cd29 ct29 oc30 kV30 dc30 pm30 cd30 ct30 oc31 kV31 dc31 pm31 cd31 ct31 oc32 kV32 dc32 pm32 cd32 ct32 oc33 kV33 dc33 pm33 cd33 ct33 oc34 kV34 dc34 pm34 cd34 ct34 oc35 kV35 dc35 pm35 cd35 ct35 oc36 kV36 dc36 pm36 cd36 ct36 oc37 kV37 dc37 pm37 cd37 ct37 oc38 kV38 dc38 pm38 cd38 ct38 oc39 kV39 dc39 pm39 cd39 ct39 oc40 kV40 dc40 pm40 cd40 ct40 oc41 kV41 dc41 pm41 cd41 ct41 : Value} {t_MOST_PARTS t_MOST_DEPTH t_MOST_SIGNS t_MOST_FORMS t_MOST_DOWNS t_MOST_UPS t_MOST_BRANCHES : Tok}
    (a0 : PySem.W.nsIn K mainGlobals "picked_kind" = some (some (.ref f0))) (l0 : K.lookup f0 = some ⟨oc0, od0, .func (PySem.W.fnOf "picked_kind" "picked_kind" (defArgs s_qpickedkind) (defBody s_qpickedkind) (defScope s_qpickedkind) .none kV0 dc0 pm0 an0 cd0 ct0), sl0⟩) (c0 : PySem.W.codeIn K cd0 "picked_kind" = true) (k0 : PySem.W.keepIn K (.ref f0) = true)
    (a1 : PySem.W.nsIn K mainGlobals "made_kind" = some (some (.ref f1))) (l1 : K.lookup f1 = some ⟨oc1, od1, .func (PySem.W.fnOf "made_kind" "made_kind" (defArgs s_qmadekind) (defBody s_qmadekind) (defScope s_qmadekind) .none kV1 dc1 pm1 an1 cd1 ct1), sl1⟩) (c1 : PySem.W.codeIn K cd1 "made_kind" = true) (k1 : PySem.W.keepIn K (.ref f1) = true)
    (a2 : PySem.W.nsIn K mainGlobals "inner_terms" = some (some (.ref f2))) (l2 : K.lookup f2 = some ⟨oc2, od2, .func (PySem.W.fnOf "inner_terms" "inner_terms" (defArgs s_qinnerterms) (defBody s_qinnerterms) (defScope s_qinnerterms) .none kV2 dc2 pm2 an2 cd2 ct2), sl2⟩) (c2 : PySem.W.codeIn K cd2 "inner_terms" = true) (k2 : PySem.W.keepIn K (.ref f2) = true)
    (a3 : PySem.W.nsIn K mainGlobals "parts" = some (some (.ref f3))) (l3 : K.lookup f3 = some ⟨oc3, od3, .func (PySem.W.fnOf "parts" "parts" (defArgs s_qparts) (defBody s_qparts) (defScope s_qparts) .none kV3 dc3 pm3 an3 cd3 ct3), sl3⟩) (c3 : PySem.W.codeIn K cd3 "parts" = true) (k3 : PySem.W.keepIn K (.ref f3) = true)
    (a4 : PySem.W.nsIn K mainGlobals "depth" = some (some (.ref f4))) (l4 : K.lookup f4 = some ⟨oc4, od4, .func (PySem.W.fnOf "depth" "depth" (defArgs s_qdepth) (defBody s_qdepth) (defScope s_qdepth) .none kV4 dc4 pm4 an4 cd4 ct4), sl4⟩) (c4 : PySem.W.codeIn K cd4 "depth" = true) (k4 : PySem.W.keepIn K (.ref f4) = true)
    (a5 : PySem.W.nsIn K mainGlobals "named" = some (some (.ref f5))) (l5 : K.lookup f5 = some ⟨oc5, od5, .func (PySem.W.fnOf "named" "named" (defArgs s_qnamed) (defBody s_qnamed) (defScope s_qnamed) .none kV5 dc5 pm5 an5 cd5 ct5), sl5⟩) (c5 : PySem.W.codeIn K cd5 "named" = true) (k5 : PySem.W.keepIn K (.ref f5) = true)
    (a6 : PySem.W.nsIn K mainGlobals "told_kind" = some (some (.ref f6))) (l6 : K.lookup f6 = some ⟨oc6, od6, .func (PySem.W.fnOf "told_kind" "told_kind" (defArgs s_qtoldkind) (defBody s_qtoldkind) (defScope s_qtoldkind) .none kV6 dc6 pm6 an6 cd6 ct6), sl6⟩) (c6 : PySem.W.codeIn K cd6 "told_kind" = true) (k6 : PySem.W.keepIn K (.ref f6) = true)
    (a7 : PySem.W.nsIn K mainGlobals "kind_of" = some (some (.ref f7))) (l7 : K.lookup f7 = some ⟨oc7, od7, .func (PySem.W.fnOf "kind_of" "kind_of" (defArgs s_qkindof) (defBody s_qkindof) (defScope s_qkindof) .none kV7 dc7 pm7 an7 cd7 ct7), sl7⟩) (c7 : PySem.W.codeIn K cd7 "kind_of" = true) (k7 : PySem.W.keepIn K (.ref f7) = true)
    (a8 : PySem.W.nsIn K mainGlobals "row_of" = some (some (.ref f8))) (l8 : K.lookup f8 = some ⟨oc8, od8, .func (PySem.W.fnOf "row_of" "row_of" (defArgs s_qrowof) (defBody s_qrowof) (defScope s_qrowof) .none kV8 dc8 pm8 an8 cd8 ct8), sl8⟩) (c8 : PySem.W.codeIn K cd8 "row_of" = true) (k8 : PySem.W.keepIn K (.ref f8) = true)
    (a9 : PySem.W.nsIn K mainGlobals "sign_row" = some (some (.ref f9))) (l9 : K.lookup f9 = some ⟨oc9, od9, .func (PySem.W.fnOf "sign_row" "sign_row" (defArgs s_qsignrow) (defBody s_qsignrow) (defScope s_qsignrow) .none kV9 dc9 pm9 an9 cd9 ct9), sl9⟩) (c9 : PySem.W.codeIn K cd9 "sign_row" = true) (k9 : PySem.W.keepIn K (.ref f9) = true)
    (a10 : PySem.W.nsIn K mainGlobals "signs_about" = some (some (.ref f10))) (l10 : K.lookup f10 = some ⟨oc10, od10, .func (PySem.W.fnOf "signs_about" "signs_about" (defArgs s_qsignsabout) (defBody s_qsignsabout) (defScope s_qsignsabout) .none kV10 dc10 pm10 an10 cd10 ct10), sl10⟩) (c10 : PySem.W.codeIn K cd10 "signs_about" = true) (k10 : PySem.W.keepIn K (.ref f10) = true)
    (a11 : PySem.W.nsIn K mainGlobals "value_kinds" = some (some (.ref f11))) (l11 : K.lookup f11 = some ⟨oc11, od11, .func (PySem.W.fnOf "value_kinds" "value_kinds" (defArgs s_qvaluekinds) (defBody s_qvaluekinds) (defScope s_qvaluekinds) .none kV11 dc11 pm11 an11 cd11 ct11), sl11⟩) (c11 : PySem.W.codeIn K cd11 "value_kinds" = true) (k11 : PySem.W.keepIn K (.ref f11) = true)
    (a12 : PySem.W.nsIn K mainGlobals "due_values" = some (some (.ref f12))) (l12 : K.lookup f12 = some ⟨oc12, od12, .func (PySem.W.fnOf "due_values" "due_values" (defArgs s_qduevalues) (defBody s_qduevalues) (defScope s_qduevalues) .none kV12 dc12 pm12 an12 cd12 ct12), sl12⟩) (c12 : PySem.W.codeIn K cd12 "due_values" = true) (k12 : PySem.W.keepIn K (.ref f12) = true)
    (a13 : PySem.W.nsIn K mainGlobals "check_sizes" = some (some (.ref f13))) (l13 : K.lookup f13 = some ⟨oc13, od13, .func (PySem.W.fnOf "check_sizes" "check_sizes" (defArgs s_qchecksizes) (defBody s_qchecksizes) (defScope s_qchecksizes) .none kV13 dc13 pm13 an13 cd13 ct13), sl13⟩) (c13 : PySem.W.codeIn K cd13 "check_sizes" = true) (k13 : PySem.W.keepIn K (.ref f13) = true)
    (a14 : PySem.W.nsIn K mainGlobals "check_form_size" = some (some (.ref f14))) (l14 : K.lookup f14 = some ⟨oc14, od14, .func (PySem.W.fnOf "check_form_size" "check_form_size" (defArgs s_qcheckformsize) (defBody s_qcheckformsize) (defScope s_qcheckformsize) .none kV14 dc14 pm14 an14 cd14 ct14), sl14⟩) (c14 : PySem.W.codeIn K cd14 "check_form_size" = true) (k14 : PySem.W.keepIn K (.ref f14) = true)
    (a15 : PySem.W.nsIn K mainGlobals "check_apart" = some (some (.ref f15))) (l15 : K.lookup f15 = some ⟨oc15, od15, .func (PySem.W.fnOf "check_apart" "check_apart" (defArgs s_qcheckapart) (defBody s_qcheckapart) (defScope s_qcheckapart) .none kV15 dc15 pm15 an15 cd15 ct15), sl15⟩) (c15 : PySem.W.codeIn K cd15 "check_apart" = true) (k15 : PySem.W.keepIn K (.ref f15) = true)
    (a16 : PySem.W.nsIn K mainGlobals "check_names" = some (some (.ref f16))) (l16 : K.lookup f16 = some ⟨oc16, od16, .func (PySem.W.fnOf "check_names" "check_names" (defArgs s_qchecknames) (defBody s_qchecknames) (defScope s_qchecknames) .none kV16 dc16 pm16 an16 cd16 ct16), sl16⟩) (c16 : PySem.W.codeIn K cd16 "check_names" = true) (k16 : PySem.W.keepIn K (.ref f16) = true)
    (a17 : PySem.W.nsIn K mainGlobals "check_form_names" = some (some (.ref f17))) (l17 : K.lookup f17 = some ⟨oc17, od17, .func (PySem.W.fnOf "check_form_names" "check_form_names" (defArgs s_qcheckformnames) (defBody s_qcheckformnames) (defScope s_qcheckformnames) .none kV17 dc17 pm17 an17 cd17 ct17), sl17⟩) (c17 : PySem.W.codeIn K cd17 "check_form_names" = true) (k17 : PySem.W.keepIn K (.ref f17) = true)
    (a18 : PySem.W.nsIn K mainGlobals "check_rules" = some (some (.ref f18))) (l18 : K.lookup f18 = some ⟨oc18, od18, .func (PySem.W.fnOf "check_rules" "check_rules" (defArgs s_qcheckrules) (defBody s_qcheckrules) (defScope s_qcheckrules) .none kV18 dc18 pm18 an18 cd18 ct18), sl18⟩) (c18 : PySem.W.codeIn K cd18 "check_rules" = true) (k18 : PySem.W.keepIn K (.ref f18) = true)
    (a19 : PySem.W.nsIn K mainGlobals "check_kinds" = some (some (.ref f19))) (l19 : K.lookup f19 = some ⟨oc19, od19, .func (PySem.W.fnOf "check_kinds" "check_kinds" (defArgs s_qcheckkinds) (defBody s_qcheckkinds) (defScope s_qcheckkinds) .none kV19 dc19 pm19 an19 cd19 ct19), sl19⟩) (c19 : PySem.W.codeIn K cd19 "check_kinds" = true) (k19 : PySem.W.keepIn K (.ref f19) = true)
    (a20 : PySem.W.nsIn K mainGlobals "let_by" = some (some (.ref f20))) (l20 : K.lookup f20 = some ⟨oc20, od20, .func (PySem.W.fnOf "let_by" "let_by" (defArgs s_qletby) (defBody s_qletby) (defScope s_qletby) .none kV20 dc20 pm20 an20 cd20 ct20), sl20⟩) (c20 : PySem.W.codeIn K cd20 "let_by" = true) (k20 : PySem.W.keepIn K (.ref f20) = true)
    (a21 : PySem.W.nsIn K mainGlobals "_law_deck" = some (some (.ref f21))) (l21 : K.lookup f21 = some ⟨oc21, od21, .func (PySem.W.fnOf "_law_deck" "_law_deck" (defArgs s_qdeck) (defBody s_qdeck) (defScope s_qdeck) .none kV21 dc21 pm21 an21 cd21 ct21), sl21⟩) (c21 : PySem.W.codeIn K cd21 "_law_deck" = true) (k21 : PySem.W.keepIn K (.ref f21) = true)
    (a22 : PySem.W.nsIn K mainGlobals "_law_word" = some (some (.ref f22))) (l22 : K.lookup f22 = some ⟨oc22, od22, .func (PySem.W.fnOf "_law_word" "_law_word" (defArgs s_qword) (defBody s_qword) (defScope s_qword) .none kV22 dc22 pm22 an22 cd22 ct22), sl22⟩) (c22 : PySem.W.codeIn K cd22 "_law_word" = true) (k22 : PySem.W.keepIn K (.ref f22) = true)
    (a23 : PySem.W.nsIn K mainGlobals "_law_seen" = some (some (.ref f23))) (l23 : K.lookup f23 = some ⟨oc23, od23, .func (PySem.W.fnOf "_law_seen" "_law_seen" (defArgs s_qseen) (defBody s_qseen) (defScope s_qseen) .none kV23 dc23 pm23 an23 cd23 ct23), sl23⟩) (c23 : PySem.W.codeIn K cd23 "_law_seen" = true) (k23 : PySem.W.keepIn K (.ref f23) = true)
    (a24 : PySem.W.nsIn K mainGlobals "_law_base" = some (some (.ref f24))) (l24 : K.lookup f24 = some ⟨oc24, od24, .func (PySem.W.fnOf "_law_base" "_law_base" (defArgs s_qbase) (defBody s_qbase) (defScope s_qbase) .none kV24 dc24 pm24 an24 cd24 ct24), sl24⟩) (c24 : PySem.W.codeIn K cd24 "_law_base" = true) (k24 : PySem.W.keepIn K (.ref f24) = true)
    (a25 : PySem.W.nsIn K mainGlobals "_law_term" = some (some (.ref f25))) (l25 : K.lookup f25 = some ⟨oc25, od25, .func (PySem.W.fnOf "_law_term" "_law_term" (defArgs s_qterm) (defBody s_qterm) (defScope s_qterm) .none kV25 dc25 pm25 an25 cd25 ct25), sl25⟩) (c25 : PySem.W.codeIn K cd25 "_law_term" = true) (k25 : PySem.W.keepIn K (.ref f25) = true)
    (a26 : PySem.W.nsIn K mainGlobals "_law_signs" = some (some (.ref f26))) (l26 : K.lookup f26 = some ⟨oc26, od26, .func (PySem.W.fnOf "_law_signs" "_law_signs" (defArgs s_qsigns) (defBody s_qsigns) (defScope s_qsigns) .none kV26 dc26 pm26 an26 cd26 ct26), sl26⟩) (c26 : PySem.W.codeIn K cd26 "_law_signs" = true) (k26 : PySem.W.keepIn K (.ref f26) = true)
    (a27 : PySem.W.nsIn K mainGlobals "_law_values" = some (some (.ref f27))) (l27 : K.lookup f27 = some ⟨oc27, od27, .func (PySem.W.fnOf "_law_values" "_law_values" (defArgs s_qvalues) (defBody s_qvalues) (defScope s_qvalues) .none kV27 dc27 pm27 an27 cd27 ct27), sl27⟩) (c27 : PySem.W.codeIn K cd27 "_law_values" = true) (k27 : PySem.W.keepIn K (.ref f27) = true)
    (a28 : PySem.W.nsIn K mainGlobals "_law_form" = some (some (.ref f28))) (l28 : K.lookup f28 = some ⟨oc28, od28, .func (PySem.W.fnOf "_law_form" "_law_form" (defArgs s_qform) (defBody s_qform) (defScope s_qform) .none kV28 dc28 pm28 an28 cd28 ct28), sl28⟩) (c28 : PySem.W.codeIn K cd28 "_law_form" = true) (k28 : PySem.W.keepIn K (.ref f28) = true)
    (a29 : PySem.W.nsIn K mainGlobals "_law_grammar" = some (some (.ref f29))) (l29 : K.lookup f29 = some ⟨oc29, od29, .func (PySem.W.fnOf "_law_grammar" "_law_grammar" (defArgs s_qgrammar) (defBody s_qgrammar) (defScope s_qgrammar) .none kV29 dc29 pm29 an29 cd29 ct29), sl29⟩) (c29 : PySem.W.codeIn K cd29 "_law_grammar" = true) (k29 : PySem.W.keepIn K (.ref f29) = true)
    (a30 : PySem.W.nsIn K mainGlobals "_law_whole" = some (some (.ref f30))) (l30 : K.lookup f30 = some ⟨oc30, od30, .func (PySem.W.fnOf "_law_whole" "_law_whole" (defArgs s_qwhole) (defBody s_qwhole) (defScope s_qwhole) .none kV30 dc30 pm30 an30 cd30 ct30), sl30⟩) (c30 : PySem.W.codeIn K cd30 "_law_whole" = true) (k30 : PySem.W.keepIn K (.ref f30) = true)
    (a31 : PySem.W.nsIn K mainGlobals "_law_same" = some (some (.ref f31))) (l31 : K.lookup f31 = some ⟨oc31, od31, .func (PySem.W.fnOf "_law_same" "_law_same" (defArgs s_qsame) (defBody s_qsame) (defScope s_qsame) .none kV31 dc31 pm31 an31 cd31 ct31), sl31⟩) (c31 : PySem.W.codeIn K cd31 "_law_same" = true) (k31 : PySem.W.keepIn K (.ref f31) = true)
    (a32 : PySem.W.nsIn K mainGlobals "_law_sum" = some (some (.ref f32))) (l32 : K.lookup f32 = some ⟨oc32, od32, .func (PySem.W.fnOf "_law_sum" "_law_sum" (defArgs s_qsum) (defBody s_qsum) (defScope s_qsum) .none kV32 dc32 pm32 an32 cd32 ct32), sl32⟩) (c32 : PySem.W.codeIn K cd32 "_law_sum" = true) (k32 : PySem.W.keepIn K (.ref f32) = true)
    (a33 : PySem.W.nsIn K mainGlobals "_law_wide" = some (some (.ref f33))) (l33 : K.lookup f33 = some ⟨oc33, od33, .func (PySem.W.fnOf "_law_wide" "_law_wide" (defArgs s_qwide) (defBody s_qwide) (defScope s_qwide) .none kV33 dc33 pm33 an33 cd33 ct33), sl33⟩) (c33 : PySem.W.codeIn K cd33 "_law_wide" = true) (k33 : PySem.W.keepIn K (.ref f33) = true)
    (a34 : PySem.W.nsIn K mainGlobals "_law_deep" = some (some (.ref f34))) (l34 : K.lookup f34 = some ⟨oc34, od34, .func (PySem.W.fnOf "_law_deep" "_law_deep" (defArgs s_qdeep) (defBody s_qdeep) (defScope s_qdeep) .none kV34 dc34 pm34 an34 cd34 ct34), sl34⟩) (c34 : PySem.W.codeIn K cd34 "_law_deep" = true) (k34 : PySem.W.keepIn K (.ref f34) = true)
    (a35 : PySem.W.nsIn K mainGlobals "_law_places" = some (some (.ref f35))) (l35 : K.lookup f35 = some ⟨oc35, od35, .func (PySem.W.fnOf "_law_places" "_law_places" (defArgs s_qplaces) (defBody s_qplaces) (defScope s_qplaces) .none kV35 dc35 pm35 an35 cd35 ct35), sl35⟩) (c35 : PySem.W.codeIn K cd35 "_law_places" = true) (k35 : PySem.W.keepIn K (.ref f35) = true)
    (a36 : PySem.W.nsIn K mainGlobals "_law_with_form" = some (some (.ref f36))) (l36 : K.lookup f36 = some ⟨oc36, od36, .func (PySem.W.fnOf "_law_with_form" "_law_with_form" (defArgs s_qwithform) (defBody s_qwithform) (defScope s_qwithform) .none kV36 dc36 pm36 an36 cd36 ct36), sl36⟩) (c36 : PySem.W.codeIn K cd36 "_law_with_form" = true) (k36 : PySem.W.keepIn K (.ref f36) = true)
    (a37 : PySem.W.nsIn K mainGlobals "_law_with_rule" = some (some (.ref f37))) (l37 : K.lookup f37 = some ⟨oc37, od37, .func (PySem.W.fnOf "_law_with_rule" "_law_with_rule" (defArgs s_qwithrule) (defBody s_qwithrule) (defScope s_qwithrule) .none kV37 dc37 pm37 an37 cd37 ct37), sl37⟩) (c37 : PySem.W.codeIn K cd37 "_law_with_rule" = true) (k37 : PySem.W.keepIn K (.ref f37) = true)
    (a38 : PySem.W.nsIn K mainGlobals "_law_kind_at" = some (some (.ref f38))) (l38 : K.lookup f38 = some ⟨oc38, od38, .func (PySem.W.fnOf "_law_kind_at" "_law_kind_at" (defArgs s_qkindat) (defBody s_qkindat) (defScope s_qkindat) .none kV38 dc38 pm38 an38 cd38 ct38), sl38⟩) (c38 : PySem.W.codeIn K cd38 "_law_kind_at" = true) (k38 : PySem.W.keepIn K (.ref f38) = true)
    (a39 : PySem.W.nsIn K mainGlobals "_law_edged" = some (some (.ref f39))) (l39 : K.lookup f39 = some ⟨oc39, od39, .func (PySem.W.fnOf "_law_edged" "_law_edged" (defArgs s_qedged) (defBody s_qedged) (defScope s_qedged) .none kV39 dc39 pm39 an39 cd39 ct39), sl39⟩) (c39 : PySem.W.codeIn K cd39 "_law_edged" = true) (k39 : PySem.W.keepIn K (.ref f39) = true)
    (a40 : PySem.W.nsIn K mainGlobals "_law_turned" = some (some (.ref f40))) (l40 : K.lookup f40 = some ⟨oc40, od40, .func (PySem.W.fnOf "_law_turned" "_law_turned" (defArgs s_qturned) (defBody s_qturned) (defScope s_qturned) .none kV40 dc40 pm40 an40 cd40 ct40), sl40⟩) (c40 : PySem.W.codeIn K cd40 "_law_turned" = true) (k40 : PySem.W.keepIn K (.ref f40) = true)
    (a41 : PySem.W.nsIn K mainGlobals "law" = some (some (.ref f41))) (l41 : K.lookup f41 = some ⟨oc41, od41, .func (PySem.W.fnOf "law" "law" (defArgs s_law) (defBody s_law) (defScope s_law) .none kV41 dc41 pm41 an41 cd41 ct41), sl41⟩) (c41 : PySem.W.codeIn K cd41 "law" = true) (k41 : PySem.W.keepIn K (.ref f41) = true)
    (z_bool : PySem.W.nsIn K mainGlobals "bool" = some none)
    (z_enumerate : PySem.W.nsIn K mainGlobals "enumerate" = some none)
    (z_int : PySem.W.nsIn K mainGlobals "int" = some none)
    (z_isinstance : PySem.W.nsIn K mainGlobals "isinstance" = some none)
    (z_len : PySem.W.nsIn K mainGlobals "len" = some none)
    (z_list : PySem.W.nsIn K mainGlobals "list" = some none)
    (z_max : PySem.W.nsIn K mainGlobals "max" = some none)
    (z_min : PySem.W.nsIn K mainGlobals "min" = some none)
    (z_range : PySem.W.nsIn K mainGlobals "range" = some none)
    (z_reversed : PySem.W.nsIn K mainGlobals "reversed" = some none)
    (z_set : PySem.W.nsIn K mainGlobals "set" = some none)
    (z_sorted : PySem.W.nsIn K mainGlobals "sorted" = some none)
    (z_str : PySem.W.nsIn K mainGlobals "str" = some none)
    (z_sum : PySem.W.nsIn K mainGlobals "sum" = some none)
    (z_tuple : PySem.W.nsIn K mainGlobals "tuple" = some none)
    (z_zip : PySem.W.nsIn K mainGlobals "zip" = some none)
    (c_MOST_PARTS : PySem.W.nsIn K mainGlobals "MOST_PARTS" = some (some (.int 30 t_MOST_PARTS)))
    (c_MOST_DEPTH : PySem.W.nsIn K mainGlobals "MOST_DEPTH" = some (some (.int 6 t_MOST_DEPTH)))
    (c_MOST_SIGNS : PySem.W.nsIn K mainGlobals "MOST_SIGNS" = some (some (.int 6 t_MOST_SIGNS)))
    (c_MOST_FORMS : PySem.W.nsIn K mainGlobals "MOST_FORMS" = some (some (.int 10 t_MOST_FORMS)))
    (c_MOST_DOWNS : PySem.W.nsIn K mainGlobals "MOST_DOWNS" = some (some (.int 2 t_MOST_DOWNS)))
    (c_MOST_UPS : PySem.W.nsIn K mainGlobals "MOST_UPS" = some (some (.int 2 t_MOST_UPS)))
    (c_MOST_BRANCHES : PySem.W.nsIn K mainGlobals "MOST_BRANCHES" = some (some (.int 3 t_MOST_BRANCHES)))
    {a_NEEDS : Addr} {es_NEEDS : List DictEntry} {n_NEEDS : Nat} {NEEDS_0 : Addr} {NEEDS_1 : Addr} {NEEDS_2 : Addr} {NEEDS_3 : Addr} {NEEDS_4 : Addr} {NEEDS_5 : Addr} {NEEDS_6 : Addr} {NEEDS_7 : Addr} {NEEDS_8 : Addr} {NEEDS_9 : Addr} {NEEDS_10 : Addr}
    (c_NEEDS : PySem.W.nsIn K mainGlobals "NEEDS" = some (some (.ref a_NEEDS))) (dl_NEEDS : K.lookup a_NEEDS = some ⟨.type "dict", none, .dict es_NEEDS.toArray n_NEEDS, #[]⟩)
    (dk_NEEDS : PySem.W.KeysLit w.params es_NEEDS) (dv_NEEDS : topKvs es_NEEDS = [(("add" : Str), Value.ref NEEDS_0), (("sub" : Str), Value.ref NEEDS_1), (("mul" : Str), Value.ref NEEDS_2), (("less" : Str), Value.ref NEEDS_3), (("glue" : Str), Value.ref NEEDS_4), (("show" : Str), Value.ref NEEDS_5), (("size" : Str), Value.ref NEEDS_6), (("put" : Str), Value.ref NEEDS_7), (("link" : Str), Value.ref NEEDS_8), (("at" : Str), Value.ref NEEDS_9), (("many" : Str), Value.ref NEEDS_10)]) (y_NEEDS : (a_NEEDS == sysModules) = false)
    {dd_NEEDS_0 : Option Addr} {m_NEEDS_0 : Nat} {sl_NEEDS_0 : Array (Option Value)} {t_NEEDS_0_0 t_NEEDS_0_1 : Tok}
    (q_NEEDS_0 : K.lookup NEEDS_0 = some ⟨.type "tuple", dd_NEEDS_0, .seq #[.str "num" t_NEEDS_0_0, .str "num" t_NEEDS_0_1] m_NEEDS_0, sl_NEEDS_0⟩)
    {dd_NEEDS_1 : Option Addr} {m_NEEDS_1 : Nat} {sl_NEEDS_1 : Array (Option Value)} {t_NEEDS_1_0 t_NEEDS_1_1 : Tok}
    (q_NEEDS_1 : K.lookup NEEDS_1 = some ⟨.type "tuple", dd_NEEDS_1, .seq #[.str "num" t_NEEDS_1_0, .str "num" t_NEEDS_1_1] m_NEEDS_1, sl_NEEDS_1⟩)
    {dd_NEEDS_2 : Option Addr} {m_NEEDS_2 : Nat} {sl_NEEDS_2 : Array (Option Value)} {t_NEEDS_2_0 t_NEEDS_2_1 : Tok}
    (q_NEEDS_2 : K.lookup NEEDS_2 = some ⟨.type "tuple", dd_NEEDS_2, .seq #[.str "num" t_NEEDS_2_0, .str "num" t_NEEDS_2_1] m_NEEDS_2, sl_NEEDS_2⟩)
    {dd_NEEDS_3 : Option Addr} {m_NEEDS_3 : Nat} {sl_NEEDS_3 : Array (Option Value)} {t_NEEDS_3_0 t_NEEDS_3_1 : Tok}
    (q_NEEDS_3 : K.lookup NEEDS_3 = some ⟨.type "tuple", dd_NEEDS_3, .seq #[.str "num" t_NEEDS_3_0, .str "num" t_NEEDS_3_1] m_NEEDS_3, sl_NEEDS_3⟩)
    {dd_NEEDS_4 : Option Addr} {m_NEEDS_4 : Nat} {sl_NEEDS_4 : Array (Option Value)} {t_NEEDS_4_0 t_NEEDS_4_1 : Tok}
    (q_NEEDS_4 : K.lookup NEEDS_4 = some ⟨.type "tuple", dd_NEEDS_4, .seq #[.str "text" t_NEEDS_4_0, .str "text" t_NEEDS_4_1] m_NEEDS_4, sl_NEEDS_4⟩)
    {dd_NEEDS_5 : Option Addr} {m_NEEDS_5 : Nat} {sl_NEEDS_5 : Array (Option Value)} {t_NEEDS_5_0 : Tok}
    (q_NEEDS_5 : K.lookup NEEDS_5 = some ⟨.type "tuple", dd_NEEDS_5, .seq #[.str "num" t_NEEDS_5_0] m_NEEDS_5, sl_NEEDS_5⟩)
    {dd_NEEDS_6 : Option Addr} {m_NEEDS_6 : Nat} {sl_NEEDS_6 : Array (Option Value)} {t_NEEDS_6_0 : Tok}
    (q_NEEDS_6 : K.lookup NEEDS_6 = some ⟨.type "tuple", dd_NEEDS_6, .seq #[.str "text" t_NEEDS_6_0] m_NEEDS_6, sl_NEEDS_6⟩)
    {dd_NEEDS_7 : Option Addr} {m_NEEDS_7 : Nat} {sl_NEEDS_7 : Array (Option Value)} {t_NEEDS_7_0 t_NEEDS_7_1 : Tok}
    (q_NEEDS_7 : K.lookup NEEDS_7 = some ⟨.type "tuple", dd_NEEDS_7, .seq #[.str "row" t_NEEDS_7_0, .str "num" t_NEEDS_7_1] m_NEEDS_7, sl_NEEDS_7⟩)
    {dd_NEEDS_8 : Option Addr} {m_NEEDS_8 : Nat} {sl_NEEDS_8 : Array (Option Value)} {t_NEEDS_8_0 t_NEEDS_8_1 : Tok}
    (q_NEEDS_8 : K.lookup NEEDS_8 = some ⟨.type "tuple", dd_NEEDS_8, .seq #[.str "row" t_NEEDS_8_0, .str "row" t_NEEDS_8_1] m_NEEDS_8, sl_NEEDS_8⟩)
    {dd_NEEDS_9 : Option Addr} {m_NEEDS_9 : Nat} {sl_NEEDS_9 : Array (Option Value)} {t_NEEDS_9_0 t_NEEDS_9_1 : Tok}
    (q_NEEDS_9 : K.lookup NEEDS_9 = some ⟨.type "tuple", dd_NEEDS_9, .seq #[.str "row" t_NEEDS_9_0, .str "num" t_NEEDS_9_1] m_NEEDS_9, sl_NEEDS_9⟩)
    {dd_NEEDS_10 : Option Addr} {m_NEEDS_10 : Nat} {sl_NEEDS_10 : Array (Option Value)} {t_NEEDS_10_0 : Tok}
    (q_NEEDS_10 : K.lookup NEEDS_10 = some ⟨.type "tuple", dd_NEEDS_10, .seq #[.str "row" t_NEEDS_10_0] m_NEEDS_10, sl_NEEDS_10⟩)
    {a_MAKES : Addr} {es_MAKES : List DictEntry} {n_MAKES : Nat} {MAKES_0 : Tok} {MAKES_1 : Tok} {MAKES_2 : Tok} {MAKES_3 : Tok} {MAKES_4 : Tok} {MAKES_5 : Tok} {MAKES_6 : Tok} {MAKES_7 : Tok} {MAKES_8 : Tok} {MAKES_9 : Tok} {MAKES_10 : Tok}
    (c_MAKES : PySem.W.nsIn K mainGlobals "MAKES" = some (some (.ref a_MAKES))) (dl_MAKES : K.lookup a_MAKES = some ⟨.type "dict", none, .dict es_MAKES.toArray n_MAKES, #[]⟩)
    (dk_MAKES : PySem.W.KeysLit w.params es_MAKES) (dv_MAKES : topKvs es_MAKES = [(("add" : Str), Value.str "num" MAKES_0), (("sub" : Str), Value.str "num" MAKES_1), (("mul" : Str), Value.str "num" MAKES_2), (("less" : Str), Value.str "num" MAKES_3), (("glue" : Str), Value.str "text" MAKES_4), (("show" : Str), Value.str "text" MAKES_5), (("size" : Str), Value.str "num" MAKES_6), (("put" : Str), Value.str "row" MAKES_7), (("link" : Str), Value.str "row" MAKES_8), (("at" : Str), Value.str "num" MAKES_9), (("many" : Str), Value.str "num" MAKES_10)]) (y_MAKES : (a_MAKES == sysModules) = false)
    : ∃ T : Adr, Tx K w mg T := by
  have F0 := fun_mk (st := s_qpickedkind) l0 c0 k0
  have F1 := fun_mk (st := s_qmadekind) l1 c1 k1
  have F2 := fun_mk (st := s_qinnerterms) l2 c2 k2
  have F3 := fun_mk (st := s_qparts) l3 c3 k3
  have F4 := fun_mk (st := s_qdepth) l4 c4 k4
  have F5 := fun_mk (st := s_qnamed) l5 c5 k5
  have F6 := fun_mk (st := s_qtoldkind) l6 c6 k6
  have F7 := fun_mk (st := s_qkindof) l7 c7 k7
  have F8 := fun_mk (st := s_qrowof) l8 c8 k8
  have F9 := fun_mk (st := s_qsignrow) l9 c9 k9
  have F10 := fun_mk (st := s_qsignsabout) l10 c10 k10
  have F11 := fun_mk (st := s_qvaluekinds) l11 c11 k11
  have F12 := fun_mk (st := s_qduevalues) l12 c12 k12
  have F13 := fun_mk (st := s_qchecksizes) l13 c13 k13
  have F14 := fun_mk (st := s_qcheckformsize) l14 c14 k14
  have F15 := fun_mk (st := s_qcheckapart) l15 c15 k15
  have F16 := fun_mk (st := s_qchecknames) l16 c16 k16
  have F17 := fun_mk (st := s_qcheckformnames) l17 c17 k17
  have F18 := fun_mk (st := s_qcheckrules) l18 c18 k18
  have F19 := fun_mk (st := s_qcheckkinds) l19 c19 k19
  have F20 := fun_mk (st := s_qletby) l20 c20 k20
  have F21 := fun_mk (st := s_qdeck) l21 c21 k21
  have F22 := fun_mk (st := s_qword) l22 c22 k22
  have F23 := fun_mk (st := s_qseen) l23 c23 k23
  have F24 := fun_mk (st := s_qbase) l24 c24 k24
  have F25 := fun_mk (st := s_qterm) l25 c25 k25
  have F26 := fun_mk (st := s_qsigns) l26 c26 k26
  have F27 := fun_mk (st := s_qvalues) l27 c27 k27
  have F28 := fun_mk (st := s_qform) l28 c28 k28
  have F29 := fun_mk (st := s_qgrammar) l29 c29 k29
  have F30 := fun_mk (st := s_qwhole) l30 c30 k30
  have F31 := fun_mk (st := s_qsame) l31 c31 k31
  have F32 := fun_mk (st := s_qsum) l32 c32 k32
  have F33 := fun_mk (st := s_qwide) l33 c33 k33
  have F34 := fun_mk (st := s_qdeep) l34 c34 k34
  have F35 := fun_mk (st := s_qplaces) l35 c35 k35
  have F36 := fun_mk (st := s_qwithform) l36 c36 k36
  have F37 := fun_mk (st := s_qwithrule) l37 c37 k37
  have F38 := fun_mk (st := s_qkindat) l38 c38 k38
  have F39 := fun_mk (st := s_qedged) l39 c39 k39
  have F40 := fun_mk (st := s_qturned) l40 c40 k40
  have F41 := fun_mk (st := s_law) l41 c41 k41
  exact ⟨⟨f0, _, f1, _, f2, _, f3, _, f4, _, f5, _, f6, _, f7, _, f8, _, f9, _, f10, _, f11, _, f12, _, f13, _, f14, _, f15, _, f16, _, f17, _, f18, _, f19, _, f20, _, f21, _, f22, _, f23, _, f24, _, f25, _, f26, _, f27, _, f28, _, f29, _, f30, _, f31, _, f32, _, f33, _, f34, _, f35, _, f36, _, f37, _, f38, _, f39, _, f40, _, f41, _, t_MOST_PARTS, t_MOST_DEPTH, t_MOST_SIGNS, t_MOST_FORMS, t_MOST_DOWNS, t_MOST_UPS, t_MOST_BRANCHES, a_NEEDS, NEEDS_0, NEEDS_1, NEEDS_2, NEEDS_3, NEEDS_4, NEEDS_5, NEEDS_6, NEEDS_7, NEEDS_8, NEEDS_9, NEEDS_10, a_MAKES, MAKES_0, MAKES_1, MAKES_2, MAKES_3, MAKES_4, MAKES_5, MAKES_6, MAKES_7, MAKES_8, MAKES_9, MAKES_10⟩, ⟨F0, bd1 (ps := ["kinds"]) F0 rfl (fun _ _ _ _ _ _ _ => rfl), PySem.W.mg_of X G a0, F1, bd2 (ps := ["deed", "kinds"]) F1 rfl (fun _ _ _ _ _ _ _ _ => rfl), PySem.W.mg_of X G a1, F2, bd1 (ps := ["term"]) F2 rfl (fun _ _ _ _ _ _ _ => rfl), PySem.W.mg_of X G a2, F3, bd1 (ps := ["term"]) F3 rfl (fun _ _ _ _ _ _ _ => rfl), PySem.W.mg_of X G a3, F4, bd1 (ps := ["term"]) F4 rfl (fun _ _ _ _ _ _ _ => rfl), PySem.W.mg_of X G a4, F5, bd1 (ps := ["term"]) F5 rfl (fun _ _ _ _ _ _ _ => rfl), PySem.W.mg_of X G a5, F6, bd2 (ps := ["pair", "kinds"]) F6 rfl (fun _ _ _ _ _ _ _ _ => rfl), PySem.W.mg_of X G a6, F7, bd2 (ps := ["term", "kinds"]) F7 rfl (fun _ _ _ _ _ _ _ _ => rfl), PySem.W.mg_of X G a7, F8, bd2 (ps := ["rows", "name"]) F8 rfl (fun _ _ _ _ _ _ _ _ => rfl), PySem.W.mg_of X G a8, F9, bd2 (ps := ["grammar", "name"]) F9 rfl (fun _ _ _ _ _ _ _ _ => rfl), PySem.W.mg_of X G a9, F10, bd2 (ps := ["grammar", "form"]) F10 rfl (fun _ _ _ _ _ _ _ _ => rfl), PySem.W.mg_of X G a10, F11, bd2 (ps := ["grammar", "form"]) F11 rfl (fun _ _ _ _ _ _ _ _ => rfl), PySem.W.mg_of X G a11, F12, bd2 (ps := ["grammar", "form"]) F12 rfl (fun _ _ _ _ _ _ _ _ => rfl), PySem.W.mg_of X G a12, F13, bd1 (ps := ["grammar"]) F13 rfl (fun _ _ _ _ _ _ _ => rfl), PySem.W.mg_of X G a13, F14, bd1 (ps := ["form"]) F14 rfl (fun _ _ _ _ _ _ _ => rfl), PySem.W.mg_of X G a14, F15, bd1 (ps := ["rows"]) F15 rfl (fun _ _ _ _ _ _ _ => rfl), PySem.W.mg_of X G a15, F16, bd1 (ps := ["grammar"]) F16 rfl (fun _ _ _ _ _ _ _ => rfl), PySem.W.mg_of X G a16, F17, bd2 (ps := ["form", "kinds"]) F17 rfl (fun _ _ _ _ _ _ _ _ => rfl), PySem.W.mg_of X G a17, F18, bd1 (ps := ["grammar"]) F18 rfl (fun _ _ _ _ _ _ _ => rfl), PySem.W.mg_of X G a18, F19, bd1 (ps := ["grammar"]) F19 rfl (fun _ _ _ _ _ _ _ => rfl), PySem.W.mg_of X G a19, F20, bd1 (ps := ["grammar"]) F20 rfl (fun _ _ _ _ _ _ _ => rfl), PySem.W.mg_of X G a20, F21, bd2 (ps := ["_law_script", "_law_many"]) F21 rfl (fun _ _ _ _ _ _ _ _ => rfl), PySem.W.mg_of X G a21, F22, bd2 (ps := ["_law_cell", "_law_k"]) F22 rfl (fun _ _ _ _ _ _ _ _ => rfl), PySem.W.mg_of X G a22, F23, bd2 (ps := ["_law_kind", "_law_one"]) F23 rfl (fun _ _ _ _ _ _ _ _ => rfl), PySem.W.mg_of X G a23, F24, bd2 (ps := ["_law_kind", "_law_cell"]) F24 rfl (fun _ _ _ _ _ _ _ _ => rfl), PySem.W.mg_of X G a24, F25, bd3 (ps := ["_law_kind", "_law_some", "_law_cell"]) F25 rfl (fun _ _ _ _ _ _ _ _ _ => rfl), PySem.W.mg_of X G a25, F26, bd2 (ps := ["_law_deck_here", "_law_word_here"]) F26 rfl (fun _ _ _ _ _ _ _ _ => rfl), PySem.W.mg_of X G a26, F27, bd2 (ps := ["_law_signs_here", "_law_at"]) F27 rfl (fun _ _ _ _ _ _ _ _ => rfl), PySem.W.mg_of X G a27, F28, bd4 (ps := ["_law_signs_here", "_law_name", "_law_at", "_law_deck_here"]) F28 rfl (fun _ _ _ _ _ _ _ _ _ _ => rfl), PySem.W.mg_of X G a28, F29, bd1 (ps := ["_law_deck_here"]) F29 rfl (fun _ _ _ _ _ _ _ => rfl), PySem.W.mg_of X G a29, F30, bd1 (ps := ["_law_found"]) F30 rfl (fun _ _ _ _ _ _ _ => rfl), PySem.W.mg_of X G a30, F31, bd2 (ps := ["_law_found", "_law_due"]) F31 rfl (fun _ _ _ _ _ _ _ _ => rfl), PySem.W.mg_of X G a31, F32, bd1 (ps := ["_law_leaves"]) F32 rfl (fun _ _ _ _ _ _ _ => rfl), PySem.W.mg_of X G a32, F33, bd2 (ps := ["_law_kind", "_law_many"]) F33 rfl (fun _ _ _ _ _ _ _ _ => rfl), PySem.W.mg_of X G a33, F34, bd2 (ps := ["_law_kind", "_law_level"]) F34 rfl (fun _ _ _ _ _ _ _ _ => rfl), PySem.W.mg_of X G a34, F35, bd1 (ps := ["_law_grammar_here"]) F35 rfl (fun _ _ _ _ _ _ _ => rfl), PySem.W.mg_of X G a35, F36, bd3 (ps := ["_law_grammar_here", "_law_f", "_law_form_here"]) F36 rfl (fun _ _ _ _ _ _ _ _ _ => rfl), PySem.W.mg_of X G a36, F37, bd3 (ps := ["_law_grammar_here", "_law_place", "_law_rule"]) F37 rfl (fun _ _ _ _ _ _ _ _ _ => rfl), PySem.W.mg_of X G a37, F38, bd4 (ps := ["_law_grammar_here", "_law_form_here", "_law_k", "_law_name"]) F38 rfl (fun _ _ _ _ _ _ _ _ _ _ => rfl), PySem.W.mg_of X G a38, F39, bd2 (ps := ["_law_grammar_here", "_law_cell"]) F39 rfl (fun _ _ _ _ _ _ _ _ => rfl), PySem.W.mg_of X G a39, F40, bd1 (ps := ["_law_grammar_here"]) F40 rfl (fun _ _ _ _ _ _ _ => rfl), PySem.W.mg_of X G a40, F41, bd1 (ps := ["_law_script"]) F41 rfl (fun _ _ _ _ _ _ _ => rfl), PySem.W.mg_of X G a41, PySem.W.mg_none_of X G z_bool, PySem.W.mg_none_of X G z_enumerate, PySem.W.mg_none_of X G z_int, PySem.W.mg_none_of X G z_isinstance, PySem.W.mg_none_of X G z_len, PySem.W.mg_none_of X G z_list, PySem.W.mg_none_of X G z_max, PySem.W.mg_none_of X G z_min, PySem.W.mg_none_of X G z_range, PySem.W.mg_none_of X G z_reversed, PySem.W.mg_none_of X G z_set, PySem.W.mg_none_of X G z_sorted, PySem.W.mg_none_of X G z_str, PySem.W.mg_none_of X G z_sum, PySem.W.mg_none_of X G z_tuple, PySem.W.mg_none_of X G z_zip, PySem.W.mg_of X G c_MOST_PARTS, PySem.W.mg_of X G c_MOST_DEPTH, PySem.W.mg_of X G c_MOST_SIGNS, PySem.W.mg_of X G c_MOST_FORMS, PySem.W.mg_of X G c_MOST_DOWNS, PySem.W.mg_of X G c_MOST_UPS, PySem.W.mg_of X G c_MOST_BRANCHES, PySem.W.mg_of X G c_NEEDS, ⟨es_NEEDS, n_NEEDS, dl_NEEDS, dk_NEEDS, dv_NEEDS⟩, y_NEEDS, fun _ => .inr ⟨_, _, _, q_NEEDS_0, rfl, rfl, (by show 2 <= sizeLine; decide), .cons ⟨_, rfl⟩ (.cons ⟨_, rfl⟩ (.nil))⟩, fun _ => .inr ⟨_, _, _, q_NEEDS_1, rfl, rfl, (by show 2 <= sizeLine; decide), .cons ⟨_, rfl⟩ (.cons ⟨_, rfl⟩ (.nil))⟩, fun _ => .inr ⟨_, _, _, q_NEEDS_2, rfl, rfl, (by show 2 <= sizeLine; decide), .cons ⟨_, rfl⟩ (.cons ⟨_, rfl⟩ (.nil))⟩, fun _ => .inr ⟨_, _, _, q_NEEDS_3, rfl, rfl, (by show 2 <= sizeLine; decide), .cons ⟨_, rfl⟩ (.cons ⟨_, rfl⟩ (.nil))⟩, fun _ => .inr ⟨_, _, _, q_NEEDS_4, rfl, rfl, (by show 2 <= sizeLine; decide), .cons ⟨_, rfl⟩ (.cons ⟨_, rfl⟩ (.nil))⟩, fun _ => .inr ⟨_, _, _, q_NEEDS_5, rfl, rfl, (by show 1 <= sizeLine; decide), .cons ⟨_, rfl⟩ (.nil)⟩, fun _ => .inr ⟨_, _, _, q_NEEDS_6, rfl, rfl, (by show 1 <= sizeLine; decide), .cons ⟨_, rfl⟩ (.nil)⟩, fun _ => .inr ⟨_, _, _, q_NEEDS_7, rfl, rfl, (by show 2 <= sizeLine; decide), .cons ⟨_, rfl⟩ (.cons ⟨_, rfl⟩ (.nil))⟩, fun _ => .inr ⟨_, _, _, q_NEEDS_8, rfl, rfl, (by show 2 <= sizeLine; decide), .cons ⟨_, rfl⟩ (.cons ⟨_, rfl⟩ (.nil))⟩, fun _ => .inr ⟨_, _, _, q_NEEDS_9, rfl, rfl, (by show 2 <= sizeLine; decide), .cons ⟨_, rfl⟩ (.cons ⟨_, rfl⟩ (.nil))⟩, fun _ => .inr ⟨_, _, _, q_NEEDS_10, rfl, rfl, (by show 1 <= sizeLine; decide), .cons ⟨_, rfl⟩ (.nil)⟩, PySem.W.mg_of X G c_MAKES, ⟨es_MAKES, n_MAKES, dl_MAKES, dk_MAKES, dv_MAKES⟩, y_MAKES⟩⟩
end K12
namespace K12
open PySem L2 TM
theorem app_len (a b : Str) : (a ++ b).length = a.length + b.length := by rw [len_list, len_list, len_list, app_list, List.length_append]
def TxOk (z : Str) : Prop := z.length <= 20000 /\ ∀ c ∈ z.cps.toList, c < 128
theorem ifS_by {c : TT} {t u : TS} {D : Ends} {σ : St} {H : Hp} (A B : Hp -> Prop) (hc : ∀ Q : Bool -> Hp -> Prop, (∀ H1, A H1 -> Q true H1) -> (∀ H1, B H1 -> Q false H1) -> c σ H Q) (h1 : ∀ H1, A H1 -> t D σ H1) (h2 : ∀ H1, B H1 -> u D σ H1) : tIfS c t u D σ H := by
  refine hc _ (fun H1 a => ?_) (fun H1 b => ?_)
  · exact iteT (h1 H1 a)
  · exact iteF (h2 H1 b)
theorem seq_ifS_by {c : TT} {t u rest : TS} {D : Ends} {σ : St} {H : Hp} (A B : Hp -> Prop) (hc : ∀ Q : Bool -> Hp -> Prop, (∀ H1, A H1 -> Q true H1) -> (∀ H1, B H1 -> Q false H1) -> c σ H Q) (h1 : ∀ H1, A H1 -> t { D with nx := rest D } σ H1) (h2 : ∀ H1, B H1 -> u { D with nx := rest D } σ H1) : tSeq (tIfS c t u) rest D σ H := ifS_by A B hc h1 h2
theorem iteNe {c A B : Prop} [Decidable c] (h1 : ¬ c -> A) (h2 : c -> B) : if (!decide c) = true then A else B := by
  by_cases h : c
  · rw [decide_eq_true h]
    exact iteF (h2 h)
  · rw [decide_eq_false h]
    exact iteT (h1 h)
def NmAt (H : Hp) (n : Str) (v : V) : Prop := ∃ p r, v = .ref p /\ H p = some (.tup (.str n :: r))
def spRow : Sp := fun vs H Q _ => ∃ (a : Addr) (nms : List Str) (us : List V) (n : Str) (i : Nat) (v : V), vs = [.ref a, .str n] /\ H a = some (.tup us) /\ L2R (NmAt H) nms us /\ nms.Nodup /\ us[i]? = some v /\ nms[i]? = some n /\ Q v H
def spSignRow : Sp := fun vs H Q _ => ∃ (g a : Addr) (y : V) (nms : List Str) (us : List V) (n : Str) (i : Nat) (v : V), vs = [.ref g, .str n] /\ H g = some (.tup [.ref a, y]) /\ H a = some (.tup us) /\ L2R (NmAt H) nms us /\ nms.Nodup /\ us[i]? = some v /\ nms[i]? = some n /\ Q v H
theorem nd_ix {α : Type} {l : List α} {i j : Nat} {x : α} (h : l.Nodup) (a : l[i]? = some x) (b : l[j]? = some x) : i = j := by
  obtain ⟨hi, ei⟩ := List.getElem?_eq_some_iff.mp a
  obtain ⟨hj, ej⟩ := List.getElem?_eq_some_iff.mp b
  have := List.pairwise_iff_getElem.mp h
  rcases Nat.lt_trichotomy i j with c | c | c
  · exact absurd (ei.trans ej.symm) (this i j hi hj c)
  · exact c
  · exact absurd (ej.trans ei.symm) (this j i hj hi c)
theorem hu_of {k : Nat} {A : Around} (r : Room k A) : A.units + 1 < cLine := by have := r.un; omega
section
variable {P : Program} {w : World} {K : PySem.W.Frag} {mg : Str -> Option Value} {base : Heap} {T : Adr}
theorem ok_row (X : Tx K w mg T) : FnOk P w K mg base CX0 1 T.qrowof T.d_qrowof ["rows", "name"] spRow := by
  refine X.F_qrowof.okQ sc_qrowof (fun vs H Q E h => ?_) (fun cdv A outer s H vs Q E hr h => ?_)
  · obtain ⟨_, _, _, _, _, _, rfl, _⟩ := h
    rfl
  obtain ⟨a, nms, us, n, i', v', rfl, ha, hn, nd, h1, h2, q⟩ := h
  refine ⟨_, (qss_cons (qs_for PassesOwn.never rfl (qi_tup (qv 0)) (qg_name (i := 2) sc_qrowof.nd rfl (Or.inl rfl)) (qss_one (qs_if (qt_cmpR op_eq (qe_ix ix_tup (qv 2) qe_int (fun _ _ => rfl)) (qv 1) (nomark _)) (qss_one (qs_ret (qv 2))) qss_nil))) (qss_one qs_never)), ?_⟩
  have ln := hn.len
  refine ⟨_, rfl, a, rfl, ⟨_, SqT.of ha⟩, for_tup (K := K) (a := a) (xs := us) (fun i σ H' => H' = H /\ (∃ x2, σ = [some (.ref a), some (.str n), x2]) /\ ∀ j < i, nms[j]? ≠ some n) ⟨rfl, ⟨none, rfl⟩, (fun j hj => absurd hj (Nat.not_lt_zero j))⟩ (fun i σ H' _ ⟨e, _⟩ => by rw [e]; exact SqT.of ha) ?_ ?_⟩
  · rintro i v σ H' hv ⟨rfl, ⟨x2, rfl⟩, hno⟩
    obtain ⟨m, hm, p, r, rfl, hp⟩ := hn.get hv
    refine ⟨_, rfl, p, _, 0, .str m, rfl, rfl, SqT.of hp, atI_head _ _, _, rfl, rfl, _, rfl, iteDd (fun h => ?_) (fun h => ?_)⟩
    · have hmn : m = n := V.str.inj h
      subst hmn
      have := nd_ix nd h2 hm
      subst this
      rw [hv] at h1
      cases h1
      exact ⟨_, rfl, q⟩
    · refine ⟨rfl, ⟨_, rfl⟩, fun j hj => ?_⟩
      rcases Nat.lt_succ_iff_lt_or_eq.mp hj with hj | rfl
      · exact hno j hj
      · intro z
        rw [hm] at z
        exact h (by rw [Option.some.inj z])
  · rintro σ H' ⟨rfl, ⟨x2, rfl⟩, hno⟩
    exact absurd h2 (hno i' (lt_of_some h1))
theorem ok_signrow (X : Tx K w mg T) : FnOk P w K mg base CX0 2 T.qsignrow T.d_qsignrow ["grammar", "name"] spSignRow := by
  have G_qrowof := ok_row (P := P) (w := w) (base := base) X
  refine X.F_qsignrow.okQ sc_qsignrow (fun vs H Q E h => ?_) (fun cdv A outer s H vs Q E hr h => ?_)
  · obtain ⟨_, _, _, _, _, _, _, _, rfl, _⟩ := h
    rfl
  obtain ⟨g, a, y, nms, us, n, i, v, rfl, hg, ha, hn, nd, h1, h2, q⟩ := h
  refine ⟨_, (qss_one (qs_ret (qe_call G_qrowof hr rfl X.m_qrowof X.F_qrowof.kp X.b_qrowof .nil pass0 (qaS (qe_ix ix_tup (qv 0) qe_int (fun _ _ => rfl)) (qaN (qv 1) qa_nil))))), ?_⟩
  exact ⟨_, rfl, g, _, 0, _, rfl, rfl, SqT.of hg, rfl, _, rfl, a, nms, us, n, i, v, rfl, ha, hn, nd, h1, h2, q⟩
end
end K12
namespace L2
open PySem PySem.Spec PyProof.Rows TM
section
variable {K : PySem.W.Frag} {a : Addr} {xs : List V} {js : List Nat} {g : TG} {n : Nat} {te : TE} {σ : St} {Q : VK} {D : Addr} {H1 : Hp} {α : Type} {R : Hp -> α -> V -> Prop} {as : List α}
theorem compT_tupR (st : OffD D R) (hz : xs.length < sizeLine) (hlen : as.length = xs.length) (ha : SqT K H1 a xs) (hD : H1 D = none)
    (he : ∀ (i : Nat) (x : V) (b : α) (H : Hp), xs[i]? = some x -> as[i]? = some b -> Same H1 H -> ∀ Q' : VK, (∀ y H', Same H H' -> R H' b y -> Q' y H') -> g x (List.replicate n none ++ compS js σ) H fun σ6 H6 => ∃ us : List (Option V), us.length = n /\ σ6 = us ++ compS js σ /\ te σ6 H6 Q')
    (hq : ∀ ys H', Same H1 H' -> H' D = some (.lst ys) -> L2R (R H') as ys -> Q (.ref D) H') : CompWT (Itt K a) g n js tYes te σ Q D H1 := by
  refine ⟨fun i m acc H => m = xs.length - i /\ i <= xs.length /\ Same H1 H /\ H D = some (.lst acc) /\ L2R (R H) (as.take i) acc, ⟨xs.length, by simp, Nat.zero_le _, same_new hD _, upd_same, .nil⟩, ?_⟩
  rintro i m acc H ⟨hm, hi, s, d, r⟩
  refine ⟨d, by rw [r.len, List.length_take]; omega, ?_⟩
  by_cases hlt : i < xs.length
  · refine .inr ⟨?_, fun x H' y => ?_⟩
    · obtain ⟨x, hx⟩ := some_of_lt hlt
      exact ⟨xs, x, Same.tupS s ha, hx⟩
    · obtain ⟨rfl, hx⟩ := y
      have hx' := hx xs (Same.tupS s ha)
      obtain ⟨b, hb⟩ := some_of_lt (xs := as) (i := i) (by omega)
      refine he i x b H' hx' hb s _ fun y H4 s4 r4 => ⟨s4 _ _ d, xs.length - (i + 1), by omega, rfl, hlt, same_upd hD (s.trans s4), upd_same, ?_⟩
      have k : ∀ c o, c ≠ D -> H4 c = some o -> upd H4 D (.lst (acc ++ [y])) c = some o := fun c o hc e => by rw [upd_ne hc]; exact e
      rw [take_snocA hb]
      exact (r.imp fun b v r => st _ _ _ b v (s4 _ _ d) k (st _ _ _ b v d (fun c o _ e => s4 c o e) r)).snoc (st _ _ _ b y (s4 _ _ d) k r4)
  · rw [List.take_of_length_le (by omega)] at r
    exact .inl ⟨⟨xs, Same.tupS s ha, by omega⟩, hq acc H s d r⟩
end
end L2
namespace K12
open PySem L2 TM
theorem sg_nm {H : Hp} {s : Sg} {v : V} (h : SgIs H s v) : NmAt H s.nm v := by
  obtain ⟨p, a, b, us, ws, e, hp, _⟩ := h
  exact ⟨p, _, e, hp⟩
theorem fm_nm {H : Hp} {s : Fm} {v : V} (h : FmIs H s v) : NmAt H s.nm v := by
  obtain ⟨p, a, b, us, e, hp, _⟩ := h
  exact ⟨p, _, e, hp⟩
theorem L2R.mapL {α β : Type} {R : α -> V -> Prop} {S : β -> V -> Prop} (f : α -> β) (h : ∀ a v, R a v -> S (f a) v) : ∀ {as : List α} {vs : List V}, L2R R as vs -> L2R S (as.map f) vs
  | _, _, .nil => .nil
  | _, _, .cons x y => .cons (h _ _ x) (L2R.mapL f h y)
theorem L2R.at {α : Type} {R : α -> V -> Prop} : ∀ {as : List α} {vs : List V} {i : Nat} {a : α}, L2R R as vs -> as[i]? = some a -> ∃ v, vs[i]? = some v /\ R a v
  | _, _, i, a, .nil, h => by simp at h
  | _, _, 0, a, .cons x y, h => by simp at h; subst h; exact ⟨_, rfl, x⟩
  | _, _, i + 1, a, .cons x y, h => by
    obtain ⟨v, h1, h2⟩ := L2R.at (i := i) y (by simpa using h)
    exact ⟨v, by simpa using h1, h2⟩
structure About (g : Gr) (f : Fm) (ss : List Sg) : Prop where
  nm : ss.map Sg.nm = f.hd :: f.br
  mem : ∀ s ∈ ss, s ∈ g.sg
structure GrN (g : Gr) : Prop where
  nd : (g.sg.map Sg.nm).Nodup
  tx : ∀ s ∈ g.sg, TxOk s.nm
  ls : g.sg.length <= 100
  vn : ∀ s ∈ g.sg, ((s.dn ++ s.up).map Prod.fst).Nodup
  vl : ∀ s ∈ g.sg, s.dn.length <= 100 /\ s.up.length <= 100
def spAbout : Sp := fun vs H Q _ => ∃ (g : Gr) (f : Fm) (ss : List Sg) (vg vf : V), vs = [vg, vf] /\ GrIs H g vg /\ FmIs H f vf /\ GrN g /\ About g f ss /\ f.br.length <= 100 /\ ∀ D us H', Same H H' -> H D = none -> H' D = some (.lst us) -> L2R (SgIs H') ss us -> Q (.ref D) H'
theorem mapM_ex {α : Type} {R : α -> V -> Prop} : ∀ (as : List α), (∀ a ∈ as, ∃ v, R a v) -> ∃ vs, L2R R as vs
  | [], _ => ⟨[], .nil⟩
  | a :: as, h => by
    obtain ⟨v, hv⟩ := h a (by simp)
    obtain ⟨vs, hvs⟩ := mapM_ex as fun b hb => h b (by simp [hb])
    exact ⟨v :: vs, .cons hv hvs⟩
def valsF (k : Nat) : List Sg -> List (Nat × Str × Str)
  | [] => []
  | s :: r => (s.dn ++ s.up).map (fun p => (k, p.1, p.2)) ++ valsF (k + 1) r
def duesF (k : Nat) : List Sg -> List (Int × Str)
  | [] => []
  | s :: r => (if k = 0 then s.up else s.dn).map (fun p => ((k : Int), p.1)) ++ duesF (k + 1) r
def kvOf (e : Nat × Str × Str) : List Key × V := ([.inl (e.1 : Int), .inr e.2.1], .str e.2.2)
def hide (H : Hp) (l : Addr) : Hp := fun b => if b = l then none else H b
theorem hide_ne {H : Hp} {l b : Addr} (h : b ≠ l) : hide H l b = H b := if_neg h
theorem hide_self {H : Hp} {l : Addr} : hide H l l = none := if_pos rfl
theorem hide_at {H : Hp} {l b : Addr} {o : HO} (h : hide H l b = some o) : b ≠ l /\ H b = some o := by
  by_cases e : b = l
  · rw [e, hide_self] at h; cases h
  · rw [hide_ne e] at h; exact ⟨e, h⟩
theorem hide_same {H : Hp} {l : Addr} : Same (hide H l) H := fun b o h => (hide_at h).2
theorem hide_T {H H' : Hp} {l : Addr} {kvs : List (List Key × V)} (hl : H l = some (.dT kvs)) (s : Same (hide H l) H') : SameT H H' := fun b xs e => s b _ (by rw [hide_ne (fun z => by rw [z, hl] at e; cases e)]; exact e)
theorem hide_upd {H H' : Hp} {l : Addr} {o : HO} (s : Same (hide H l) H') : Same (hide H l) (upd H' l o) := fun b u h => by
  rw [upd_ne (hide_at h).1]
  exact s b u h
theorem valV_none {κ : Type} [DecidableEq κ] {kvs : List (κ × V)} {k : κ} (h : ¬ k ∈ kvs.map (·.1)) : valV kvs k = none := by
  cases e : valV kvs k with
  | none => rfl
  | some v => exact absurd (valV_in e) h
theorem valsF_snoc : ∀ (ss : List Sg) (k : Nat) (s : Sg), valsF k (ss ++ [s]) = valsF k ss ++ (s.dn ++ s.up).map (fun p => (k + ss.length, p.1, p.2))
  | [], k, s => by simp [valsF]
  | x :: ss, k, s => by
    rw [List.cons_append, valsF, valsF, valsF_snoc ss (k + 1) s, List.append_assoc, List.length_cons]
    have e : k + 1 + ss.length = k + (ss.length + 1) := by omega
    rw [e]
theorem duesF_snoc : ∀ (ss : List Sg) (k : Nat) (s : Sg), duesF k (ss ++ [s]) = duesF k ss ++ (if k + ss.length = 0 then s.up else s.dn).map (fun p => (((k + ss.length : Nat) : Int), p.1))
  | [], k, s => by simp [duesF]
  | x :: ss, k, s => by
    rw [List.cons_append, duesF, duesF, duesF_snoc ss (k + 1) s, List.append_assoc, List.length_cons]
    have e : k + 1 + ss.length = k + (ss.length + 1) := by omega
    rw [e]
theorem valsF_lt : ∀ (ss : List Sg) (k : Nat), ∀ e ∈ valsF k ss, e.1 < k + ss.length
  | [], k, e, h => by rw [valsF] at h; cases h
  | x :: ss, k, e, h => by
    rw [valsF] at h
    rw [List.length_cons]
    rcases List.mem_append.mp h with h | h
    · obtain ⟨p, _, rfl⟩ := List.mem_map.mp h
      show k < _
      omega
    · have := valsF_lt ss (k + 1) e h
      omega
theorem valsF_len : ∀ (ss : List Sg) (k : Nat), (∀ s ∈ ss, s.dn.length <= 100 /\ s.up.length <= 100) -> (valsF k ss).length <= 200 * ss.length
  | [], k, _ => by rw [valsF]; simp
  | x :: ss, k, h => by
    rw [valsF, List.length_append, List.length_map, List.length_append, List.length_cons]
    have h1 := h x (by simp)
    have h2 := valsF_len ss (k + 1) fun s hs => h s (by simp [hs])
    omega
def spKinds : Sp := fun vs H Q _ => ∃ (g : Gr) (f : Fm) (ss : List Sg) (vg vf : V), vs = [vg, vf] /\ GrIs H g vg /\ FmIs H f vf /\ GrN g /\ About g f ss /\ f.br.length <= 10 /\ ∀ d H', Same H H' -> H d = none -> H' d = some (.dT ((valsF 0 ss).map kvOf)) -> Q (.ref d) H'
def spDues : Sp := fun vs H Q _ => ∃ (g : Gr) (f : Fm) (ss : List Sg) (vg vf : V), vs = [vg, vf] /\ GrIs H g vg /\ FmIs H f vf /\ GrN g /\ About g f ss /\ f.br.length <= 10 /\ ∀ D us H', Same H H' -> H D = none -> H' D = some (.lst us) -> L2R (IsP H') (duesF 0 ss) us -> Q (.ref D) H'
section
variable {P : Program} {w : World} {K : PySem.W.Frag} {mg : Str -> Option Value} {base : Heap} {T : Adr}
theorem ok_about (X : Tx K w mg T) : FnOk P w K mg base CX0 3 T.qsignsabout T.d_qsignsabout ["grammar", "form"] spAbout := by
  have G_qsignrow := ok_signrow (P := P) (w := w) (base := base) X
  refine X.F_qsignsabout.okQ sc_qsignsabout (fun vs H Q E h => ?_) (fun cdv A outer s H vs Q E hr h => ?_)
  · obtain ⟨_, _, _, _, _, rfl, _⟩ := h
    rfl
  obtain ⟨g, f, ss, vg, vf, rfl, hg, hf, gn, ab, lb, q⟩ := h
  obtain ⟨gp, ga, gb, gus, gws, rfl, hgp, hga, hsg, hgb, hfm⟩ := hg
  obtain ⟨fp, fa, fb, fus, rfl, hfp, hfa, hfb, hru⟩ := hf
  refine ⟨_, (qss_one (qs_ret (qe_comp (ys := ["grammar"]) (js := [0]) rfl rfl (qi_tup (qe_op op_catA (qe_tup (qaS (qe_ix ix_tup (qv 1) qe_int (fun _ _ => rfl)) qa_nil)) (qe_ix ix_tup (qv 1) qe_int (fun _ _ => rfl)))) (fun _ _ _ _ _ => qif_nil) (fun _ _ _ _ _ => (qe_call G_qsignrow hr rfl X.m_qsignrow X.F_qsignrow.kp X.b_qsignrow .nil pass0 (qaN (qv 1) (qaN (qv 0) qa_nil))))))), ?_⟩
  refine ⟨_, rfl, fp, _, 1, _, rfl, rfl, SqT.of hfp, rfl, (by show 1 <= sizeLine; decide), fun t1 ht1 => ?_⟩
  have s1 := same_new ht1 (.tup [.str f.hd])
  refine ⟨_, rfl, fp, _, 2, _, rfl, rfl, SqT.of (s1 _ _ hfp), rfl, t1, fa, [.str f.hd], f.br.map V.str, rfl, rfl, upd_same, s1 _ _ hfa, fits2 (by rw [List.length_map]; simp; omega), fun t2 H2 s2 ht2' => ?_⟩
  have s12 := s1.trans s2
  have exs : ∃ ys, L2R (fun (s : Sg) v => ∃ i : Nat, gus[i]? = some v /\ g.sg[i]? = some s) ss ys := mapM_ex (R := fun (s : Sg) v => ∃ i : Nat, gus[i]? = some v /\ g.sg[i]? = some s) ss fun s hs => by
    obtain ⟨i, hi⟩ := List.getElem?_of_mem (ab.mem s hs)
    obtain ⟨v, hv, _⟩ := L2R.at hsg hi
    exact ⟨v, i, hv, hi⟩
  obtain ⟨ys, hys⟩ := exs
  have ly := hys.len
  have lss : ss.length = f.br.length + 1 := by have := congrArg List.length ab.nm; rw [List.length_map, List.length_cons] at this; exact this
  refine ⟨t2, rfl, ⟨_, SqT.of ht2'⟩, fun D hD => ?_⟩
  refine comp_tupM (K := K) (xs := [.str f.hd] ++ f.br.map V.str) (ys := ys) (fitsL (by simp; omega)) (by simp; omega) (SqT.of ht2') hD (fun i x y H' hx hy sm Q' q' => ?_) (fun H' sm hl => ?_)
  · obtain ⟨s, hs, j, hj, hjs⟩ := hys.get hy
    have hxs : x = .str s.nm := by
      have e : [V.str f.hd] ++ f.br.map V.str = (ss.map Sg.nm).map V.str := by rw [ab.nm]; rfl
      rw [e, List.getElem?_map, List.getElem?_map, hs] at hx
      exact (Option.some.inj hx).symm
    subst hxs
    have sm' := s12.trans sm
    have hmem := List.mem_of_getElem? hjs
    refine ⟨_, rfl, _, rfl, gp, ga, _, g.sg.map Sg.nm, gus, s.nm, j, y, rfl, sm' _ _ hgp, sm' _ _ hga, L2R.mapL Sg.nm (fun s v h => sg_nm (SgIs.same (sameT sm') h)) hsg, gn.nd, hj, by rw [List.getElem?_map, hjs]; rfl, q' H' (Same.refl _)⟩
  · refine q D ys H' (s12.trans sm) (s12.free hD) hl ?_
    have key : ∀ {ss : List Sg} {ys : List V}, L2R (fun (s : Sg) v => ∃ i : Nat, gus[i]? = some v /\ g.sg[i]? = some s) ss ys -> L2R (SgIs H') ss ys := fun h => h.imp fun s v ⟨i, h1, h2⟩ => by
      obtain ⟨v', hv', hs'⟩ := L2R.at hsg h2
      rw [h1] at hv'
      cases hv'
      exact SgIs.same (sameT (s12.trans sm)) hs'
    exact key hys
theorem ok_kinds (X : Tx K w mg T) : FnOk P w K mg base CX0 4 T.qvaluekinds T.d_qvaluekinds ["grammar", "form"] spKinds := by
  have G_qsignsabout := ok_about (P := P) (w := w) (base := base) X
  refine X.F_qvaluekinds.okQ sc_qvaluekinds (fun vs H Q E h => ?_) (fun cdv A outer s H vs Q E hr h => ?_)
  · obtain ⟨_, _, _, _, _, rfl, _⟩ := h
    rfl
  obtain ⟨g, f, ss, vg, vf, rfl, hg, hf, gn, ab, lb, q⟩ := h
  refine ⟨_, (qss_cons (qs_set (i := 2) sc_qvaluekinds.nd rfl (Or.inl rfl) qe_dnewT) (qss_cons (qs_for PassesOwn.never rfl (qi_enumL rfl X.z_enumerate (qaK (qe_call G_qsignsabout hr rfl X.m_qsignsabout X.F_qsignsabout.kp X.b_qsignsabout .nil pass0 (qaN (qv 0) (qaN (qv 1) qa_nil))) qa_nil)) (qg_tup rfl (qgs_cons (qg_name (i := 3) sc_qvaluekinds.nd rfl (Or.inl rfl)) (qgs_cons (qg_name (i := 4) sc_qvaluekinds.nd rfl (Or.inl rfl)) qgs_nil))) (qss_one (qs_for PassesOwn.never rfl (qi_tup (qe_op op_catA (qe_ix ix_tup (qv 4) qe_int (fun _ _ => rfl)) (qe_ix ix_tup (qv 4) qe_int (fun _ _ => rfl)))) (qg_tup rfl (qgs_cons (qg_name (i := 5) sc_qvaluekinds.nd rfl (Or.inl rfl)) (qgs_cons (qg_name (i := 6) sc_qvaluekinds.nd rfl (Or.inl rfl)) qgs_nil))) (qss_one (qs_dput (hu_of hr) (qv 2) (qe_tup (qaN (qv 3) (qaN (qv 5) qa_nil))) (qv 6) rfl))))) (qss_one (qs_ret (qv 2))))), ?_⟩
  have lss : ss.length = f.br.length + 1 := by have := congrArg List.length ab.nm; rw [List.length_map, List.length_cons] at this; exact this
  intro d hd
  have s0 := same_new hd (.dT [])
  refine ⟨_, rfl, _, rfl, g, f, ss, vg, vf, rfl, GrIs.same (sameT s0) hg, FmIs.same (sameT s0) hf, gn, ab, by omega, fun D us H1 s1 nD hD hus => ?_⟩
  have lus := hus.len
  have nd : d ≠ D := fun e => by rw [<- e, upd_same] at nD; cases nD
  have vl : ∀ s ∈ ss, s.dn.length <= 100 /\ s.up.length <= 100 := fun s hs => gn.vl s (ab.mem s hs)
  have hd1 := s1 _ _ (upd_same (H := H) (a := d) (o := .dT []))
  refine ⟨D, us, rfl, SqL.of hD, for_wt (fun i σ H' => (∃ x3 x4 x5 x6, σ = [some vg, some vf, some (.ref d), x3, x4, x5, x6]) /\ Same (hide H1 d) H' /\ H' d = some (.dT ((valsF 0 (ss.take i)).map kvOf)))
    ⟨⟨none, none, none, none, rfl⟩, hide_same, hd1⟩ (fun i σ H' _ ⟨_, sm, _⟩ => SqL.of (sm _ _ (by rw [hide_ne nd.symm]; exact hD))) ?_ ?_⟩
  · rintro i T' vs' σ H' hi ⟨v, hv, rfl⟩ ⟨⟨x3, x4, x5, x6, rfl⟩, sm, hd'⟩ hT
    obtain ⟨sg, hsg, hsi⟩ := hus.get hv
    have hmem := List.mem_of_getElem? hsg
    have hT1 := hide_T hd1 sm
    obtain ⟨p, da, ua, dus, uus, rfl, hp, hda, hdn, hua, hup⟩ := SgIs.same hT1 hsi
    have s2 := same_new hT (.tup [.int (i : Int), .ref p])
    have hp2 := s2 _ _ hp
    refine ⟨T', _, rfl, SqT.of upd_same, rfl, _, _, rfl, _, _, rfl, rfl, ?_⟩
    refine ⟨_, rfl, p, _, 1, _, rfl, rfl, SqT.of hp2, rfl, _, rfl, p, _, 2, _, rfl, rfl, SqT.of hp2, rfl, da, ua, dus, uus, rfl, rfl, s2 _ _ hda, s2 _ _ hua, ?_, fun t H3 s3 ht => ?_⟩
    · have := hdn.len
      have := hup.len
      have := vl sg hmem
      exact fits2 (by omega)
    have s23 := s2.trans s3
    have hprs : L2R (PrIs H3) (sg.dn ++ sg.up) (dus ++ uus) := (hdn.imp fun _ _ h => PrIs.same (sameT s23) h).app (hup.imp fun _ _ h => PrIs.same (sameT s23) h)
    have lprs := hprs.len
    have hlt := lt_of_some hsg
    have ltk : (ss.take i).length = i := by rw [List.length_take]; omega
    have vn := gn.vn sg (ab.mem sg hmem)
    have hd3 := s23 _ _ hd'
    refine ⟨t, rfl, ⟨_, SqT.of ht⟩, for_tup (K := K) (a := t) (xs := dus ++ uus) (fun j σ H4 => (∃ x5 x6, σ = [some vg, some vf, some (.ref d), some (.int (i : Int)), some (.ref p), x5, x6]) /\ Same (hide H3 d) H4 /\ H4 d = some (.dT ((valsF 0 (ss.take i) ++ ((sg.dn ++ sg.up).take j).map fun q => (i, q.1, q.2)).map kvOf)))
      ⟨⟨_, _, rfl⟩, hide_same, by rw [hd3]; simp⟩ (fun j σ H4 _ ⟨_, sm4, _⟩ => SqT.of (hide_T hd3 sm4 _ _ ht)) ?_ ?_⟩
    · rintro j v4 σ H4 hv4 ⟨⟨y5, y6, rfl⟩, sm4, hd4⟩
      obtain ⟨⟨nm, kd⟩, hnk, q4, rfl, hq4⟩ := hprs.get hv4
      have hq4' := hide_T hd3 sm4 _ _ hq4
      refine ⟨q4, _, rfl, SqT.of hq4', rfl, _, _, rfl, _, _, rfl, rfl, ?_⟩
      refine ⟨_, rfl, _, rfl, _, rfl, _, rfl, (by show 2 <= sizeLine; decide), fun p5 hp5 => ?_⟩
      have s5 := same_new hp5 (.tup [.int (i : Int), .str nm])
      have hjl := lt_of_some hnk
      have keys : ¬ [Sum.inl (i : Int), Sum.inr nm] ∈ ((valsF 0 (ss.take i) ++ ((sg.dn ++ sg.up).take j).map fun q => (i, q.1, q.2)).map kvOf).map (·.1) := fun m => by
        obtain ⟨e1, h1, h2⟩ := List.mem_map.mp m
        obtain ⟨e2, h3, rfl⟩ := List.mem_map.mp h1
        obtain ⟨k2, n2, d2⟩ := e2
        have h2 : [Sum.inl (k2 : Int), Sum.inr n2] = [Sum.inl (i : Int), Sum.inr nm] := h2
        have hk : k2 = i := by
          have := (List.cons.inj h2).1
          have := Sum.inl.inj this
          omega
        have hn : n2 = nm := by
          have := (List.cons.inj (List.cons.inj h2).2).1
          exact Sum.inr.inj this
        subst hk hn
        rcases List.mem_append.mp h3 with h | h
        · have := valsF_lt _ _ _ h
          rw [ltk] at this
          have : k2 < 0 + k2 := this
          omega
        · obtain ⟨pr, hpr, e⟩ := List.mem_map.mp h
          obtain ⟨r, hr⟩ := List.getElem?_of_mem hpr
          rw [List.getElem?_take] at hr
          split at hr
          · rename_i hrj
            have e1 : ((sg.dn ++ sg.up).map Prod.fst)[r]? = some n2 := by
              rw [List.getElem?_map, hr]
              have : pr.1 = n2 := congrArg (fun x => x.2.1) e
              rw [<- this]
              rfl
            have e2 : ((sg.dn ++ sg.up).map Prod.fst)[j]? = some n2 := by rw [List.getElem?_map, hnk]; rfl
            have := nd_ix vn e1 e2
            omega
          · cases hr
      have hd5 := s5 _ _ hd4
      refine ⟨d, _, rfl, DPut.t (k := [Sum.inl (i : Int), Sum.inr nm]) hd5 upd_same ?_, ⟨_, _, rfl⟩, hide_upd (sm4.trans s5), ?_⟩
      · have l1 := valsF_len (ss.take i) 0 fun s hs => vl s (List.mem_of_mem_take hs)
        rw [ltk] at l1
        have l2 := vl sg hmem
        refine fitsL ?_
        rw [List.length_map, List.length_append, List.length_map, List.length_take, List.length_append]
        omega
      · rw [upd_same, putK_new _ (valV_none keys), take_snocA hnk]
        simp only [List.map_append, List.append_assoc]
        rfl
    · rintro σ H4 ⟨⟨y5, y6, rfl⟩, sm4, hd4⟩
      refine ⟨⟨_, _, _, _, rfl⟩, fun b o h => ?_, ?_⟩
      · obtain ⟨ne, hb⟩ := hide_at h
        have := s23 _ _ (sm b o h)
        exact sm4 b o (by rw [hide_ne ne]; exact this)
      · rw [show (sg.dn ++ sg.up).take (dus ++ uus).length = sg.dn ++ sg.up from List.take_of_length_le (by omega)] at hd4
        rw [hd4, take_snocA hsg, valsF_snoc, ltk, Nat.zero_add]
  · rintro σ H' ⟨⟨x3, x4, x5, x6, rfl⟩, sm, hd'⟩
    rw [List.take_of_length_le (by omega)] at hd'
    refine ⟨_, rfl, q d H' (fun b o h => ?_) hd hd'⟩
    have ne : b ≠ d := fun z => by rw [z, hd] at h; cases h
    exact sm b o (by rw [hide_ne ne]; exact s1 _ _ (s0 _ _ h))
theorem ok_dues (X : Tx K w mg T) : FnOk P w K mg base CX0 4 T.qduevalues T.d_qduevalues ["grammar", "form"] spDues := by
  have G_qsignsabout := ok_about (P := P) (w := w) (base := base) X
  refine X.F_qduevalues.okQ sc_qduevalues (fun vs H Q E h => ?_) (fun cdv A outer s H vs Q E hr h => ?_)
  · obtain ⟨_, _, _, _, _, rfl, _⟩ := h
    rfl
  obtain ⟨g, f, ss, vg, vf, rfl, hg, hf, gn, ab, lb, q⟩ := h
  refine ⟨_, (qss_cons (qs_set (i := 2) sc_qduevalues.nd rfl (Or.inl rfl) (qe_lst qa_nil)) (qss_cons (qs_for PassesOwn.never rfl (qi_enumL rfl X.z_enumerate (qaK (qe_call G_qsignsabout hr rfl X.m_qsignsabout X.F_qsignsabout.kp X.b_qsignsabout .nil pass0 (qaN (qv 0) (qaN (qv 1) qa_nil))) qa_nil)) (qg_tup rfl (qgs_cons (qg_name (i := 3) sc_qduevalues.nd rfl (Or.inr rfl)) (qgs_cons (qg_name (i := 4) sc_qduevalues.nd rfl (Or.inl rfl)) qgs_nil))) (qss_cons (qs_set (i := 5) sc_qduevalues.nd rfl (Or.inl rfl) (qe_ifExp (qt_cmpR op_eq (qv 3) qe_int (nomark _)) (qe_ix ix_tup (qv 4) qe_int (fun _ _ => rfl)) (qe_ix ix_tup (qv 4) qe_int (fun _ _ => rfl)))) (qss_one (qs_expr (qe_bm PySem.F.plainAttrs_list PySem.F.slot_list_extend PySem.F.type_list_extend mt_extend (qv 2) (qaE (qe_compT (ts := ["name", "kind"]) (ys := ["k"]) (js := [3]) rfl rfl (qi_tup (qv 5)) (fun _ _ _ _ _ => qg_tupC (K := K) (n := 2) rfl rfl (qgs_cons (qg_name (i := 0) (show (["name", "kind", "k"] : List Str).Nodup by decide) rfl (Or.inl rfl)) (qgs_cons (qg_name (i := 1) (show (["name", "kind", "k"] : List Str).Nodup by decide) rfl (Or.inl rfl)) qgs_nil))) (fun _ _ _ _ _ => qif_nil) (fun _ _ _ _ _ => (qe_tup (qaN (qv 2) (qaN (qv 0) qa_nil))))) qa_nil)))))) (qss_one (qs_ret (qv 2))))), ?_⟩
  have lss : ss.length = f.br.length + 1 := by have := congrArg List.length ab.nm; rw [List.length_map, List.length_cons] at this; exact this
  refine ⟨(by show 0 <= sizeLine; decide), fun r hr' => ?_⟩
  have s0 := same_new hr' (.lst [])
  refine ⟨_, rfl, _, rfl, g, f, ss, vg, vf, rfl, GrIs.same (sameT s0) hg, FmIs.same (sameT s0) hf, gn, ab, by omega, fun D us H1 s1 nD hD hus => ?_⟩
  have lus := hus.len
  have nd : r ≠ D := fun e => by rw [<- e, upd_same] at nD; cases nD
  have vl : ∀ s ∈ ss, s.dn.length <= 100 /\ s.up.length <= 100 := fun s hs => gn.vl s (ab.mem s hs)
  have hr1 := s1 _ _ (upd_same (H := H) (a := r) (o := .lst []))
  refine ⟨D, us, rfl, SqL.of hD, for_wt (fun i σ H' => (∃ x3 x4 x5, σ = [some vg, some vf, some (.ref r), x3, x4, x5]) /\ Same (hide H1 r) H' /\ ∃ zs, H' r = some (.lst zs) /\ L2R (IsP H') (duesF 0 (ss.take i)) zs /\ zs.length <= 100 * i)
    ⟨⟨none, none, none, rfl⟩, hide_same, [], hr1, .nil, Nat.zero_le _⟩ (fun i σ H' _ ⟨_, sm, _⟩ => SqL.of (sm _ _ (by rw [hide_ne nd.symm]; exact hD))) ?_ ?_⟩
  · rintro i T' vs' σ H' hi ⟨v, hv, rfl⟩ ⟨⟨x3, x4, x5, rfl⟩, sm, zs, hz', hzs, lz⟩ hT
    obtain ⟨sg, hsg, hsi⟩ := hus.get hv
    have hmem := List.mem_of_getElem? hsg
    have hT1 : SameT H1 H' := fun b xs e => sm b _ (by rw [hide_ne (fun z => by rw [z, hr1] at e; cases e)]; exact e)
    obtain ⟨p, da, ua, dus, uus, rfl, hp, hda, hdn, hua, hup⟩ := SgIs.same hT1 hsi
    have s2 := same_new hT (.tup [.int (i : Int), .ref p])
    have hp2 := s2 _ _ hp
    have hlt := lt_of_some hsg
    have ltk : (ss.take i).length = i := by rw [List.length_take]; omega
    have vls := vl sg hmem
    refine ⟨T', _, rfl, SqT.of upd_same, rfl, _, _, rfl, _, _, rfl, rfl, ?_⟩
    have snoc : duesF 0 (ss.take (i + 1)) = duesF 0 (ss.take i) ++ (if i = 0 then sg.up else sg.dn).map (fun q => ((i : Int), q.1)) := by
      rw [take_snocA hsg, duesF_snoc, ltk, Nat.zero_add]
    by_cases h0 : i = 0
    · rw [if_pos h0] at snoc
      refine ⟨_, rfl, rfl, _, rfl, iteYd (by rw [h0]; rfl) ⟨_, rfl, p, _, 2, _, rfl, rfl, SqT.of hp2, rfl, ?_⟩⟩
      have hz2 := s2 _ _ hz'
      have hra2 := s2 _ _ hua
      have lr := hup.len
      refine ⟨_, rfl, .inl ⟨rfl, _, SqL.of hz2⟩, _, rfl, ua, rfl, ⟨_, SqT.of hra2⟩, fun D2 hD2 => ?_⟩
      refine compT_tupR (K := K) (xs := uus) (as := sg.up.map fun q => ((i : Int), q.1)) (R := IsP) (OffD.ofT fun _ _ _ _ e r => r.same e) (fitsL (by omega)) (by rw [List.length_map]; omega) (SqT.of hra2) hD2 (fun j x b H3 hx hb sm3 Q' q' => ?_) (fun ys H3 s3 h3 hys => ?_)
      · obtain ⟨⟨nm, kd⟩, hnk, q4, rfl, hq4⟩ := hup.get hx
        rw [List.getElem?_map, hnk] at hb
        cases hb
        refine ⟨q4, _, rfl, SqT.of (sm3 _ _ (s2 _ _ hq4)), rfl, _, _, rfl, _, _, rfl, rfl, [some _, some _], rfl, rfl, ?_⟩
        exact ⟨_, rfl, _, rfl, (by show 2 <= sizeLine; decide), fun p5 hp5 => q' _ _ (same_new hp5 _) ⟨p5, rfl, upd_same⟩⟩
      · have lys := hys.len
        rw [List.length_map] at lys
        have s23 := s2.trans s3
        have hz3 := s23 _ _ hz'
        refine ⟨r, D2, zs, ys, rfl, rfl, hz3, h3, fits2 (by omega), ⟨_, _, _, rfl⟩, fun b o h => ?_, zs ++ ys, upd_same, ?_, by rw [List.length_append]; omega⟩
        · obtain ⟨ne, _⟩ := hide_at h
          rw [upd_ne ne]
          exact s23 _ _ (sm b o h)
        · rw [snoc]
          have tL : SameT H3 (upd H3 r (.lst (zs ++ ys))) := sameT_lst hz3
          exact (hzs.imp fun _ _ h => h.same ((sameT s23).trans tL)).app (hys.imp fun _ _ h => h.same tL)
    · rw [if_neg h0] at snoc
      refine ⟨_, rfl, rfl, _, rfl, iteNd (fun z => h0 (by have := V.int.inj z; omega)) ⟨_, rfl, p, _, 1, _, rfl, rfl, SqT.of hp2, rfl, ?_⟩⟩
      have hz2 := s2 _ _ hz'
      have hra2 := s2 _ _ hda
      have lr := hdn.len
      refine ⟨_, rfl, .inl ⟨rfl, _, SqL.of hz2⟩, _, rfl, da, rfl, ⟨_, SqT.of hra2⟩, fun D2 hD2 => ?_⟩
      refine compT_tupR (K := K) (xs := dus) (as := sg.dn.map fun q => ((i : Int), q.1)) (R := IsP) (OffD.ofT fun _ _ _ _ e r => r.same e) (fitsL (by omega)) (by rw [List.length_map]; omega) (SqT.of hra2) hD2 (fun j x b H3 hx hb sm3 Q' q' => ?_) (fun ys H3 s3 h3 hys => ?_)
      · obtain ⟨⟨nm, kd⟩, hnk, q4, rfl, hq4⟩ := hdn.get hx
        rw [List.getElem?_map, hnk] at hb
        cases hb
        refine ⟨q4, _, rfl, SqT.of (sm3 _ _ (s2 _ _ hq4)), rfl, _, _, rfl, _, _, rfl, rfl, [some _, some _], rfl, rfl, ?_⟩
        exact ⟨_, rfl, _, rfl, (by show 2 <= sizeLine; decide), fun p5 hp5 => q' _ _ (same_new hp5 _) ⟨p5, rfl, upd_same⟩⟩
      · have lys := hys.len
        rw [List.length_map] at lys
        have s23 := s2.trans s3
        have hz3 := s23 _ _ hz'
        refine ⟨r, D2, zs, ys, rfl, rfl, hz3, h3, fits2 (by omega), ⟨_, _, _, rfl⟩, fun b o h => ?_, zs ++ ys, upd_same, ?_, by rw [List.length_append]; omega⟩
        · obtain ⟨ne, _⟩ := hide_at h
          rw [upd_ne ne]
          exact s23 _ _ (sm b o h)
        · rw [snoc]
          have tL : SameT H3 (upd H3 r (.lst (zs ++ ys))) := sameT_lst hz3
          exact (hzs.imp fun _ _ h => h.same ((sameT s23).trans tL)).app (hys.imp fun _ _ h => h.same tL)
  · rintro σ H' ⟨⟨x3, x4, x5, rfl⟩, sm, zs, hz', hzs, lz⟩
    rw [List.take_of_length_le (by omega)] at hzs
    refine ⟨_, rfl, q r zs H' (fun b o h => ?_) hr' hz' hzs⟩
    have ne : b ≠ r := fun z => by rw [z, hr'] at h; cases h
    exact sm b o (by rw [hide_ne ne]; exact s1 _ _ (s0 _ _ h))
end
end K12
namespace K12
open PySem L2
open TM 
inductive Al (H : Hp) : Nat -> V -> V -> Prop
  | str {n : Nat} (z : Str) : Al H n (.str z) (.str z)
  | int {n : Nat} (i : Int) : Al H n (.int i) (.int i)
  | tup {n : Nat} {a b : Addr} {xs ys : List V} : H a = some (.tup xs) -> H b = some (.tup ys) -> ys.length = xs.length -> xs.length <= 1000 -> (∀ (i : Nat) (x y : V), xs[i]? = some x -> ys[i]? = some y -> Al H n x y) -> Al H (n + 1) (.ref a) (.ref b)
theorem Al.same {H H' : Hp} (s : Same H H') {n : Nat} {v u : V} (h : Al H n v u) : Al H' n v u := by
  induction h with
  | str z => exact .str z
  | int i => exact .int i
  | tup ha hb e hl _ ih => exact .tup (s _ _ ha) (s _ _ hb) e hl ih
theorem Al.mono {H : Hp} {n : Nat} {v u : V} (h : Al H n v u) : ∀ {m : Nat}, n <= m -> Al H m v u := by
  induction h with
  | str z => exact fun _ => .str z
  | int i => exact fun _ => .int i
  | tup ha hb e hl _ ih =>
    intro m hm
    obtain ⟨k, rfl⟩ : ∃ k, m = k + 1 := ⟨m - 1, by omega⟩
    exact .tup ha hb e hl fun i x y hx hy => ih i x y hx hy (by omega)
theorem al_one {H : Hp} {n : Nat} {a b : Addr} {x1 x2 : V} (ha : H a = some (.tup [x1])) (hb : H b = some (.tup [x2])) (h1 : Al H n x1 x2) : Al H (n + 1) (.ref a) (.ref b) :=
  .tup ha hb rfl (by show 1 <= 1000; decide) fun i x y hx hy => by
    match i with
    | 0 => cases hx; cases hy; exact h1
    | i + 1 => simp at hx
theorem al_two {H : Hp} {n : Nat} {a b : Addr} {x1 x2 y1 y2 : V} (ha : H a = some (.tup [x1, y1])) (hb : H b = some (.tup [x2, y2])) (h1 : Al H n x1 x2) (h2 : Al H n y1 y2) : Al H (n + 1) (.ref a) (.ref b) :=
  .tup ha hb rfl (by show 2 <= 1000; decide) fun i x y hx hy => by
    match i with
    | 0 => cases hx; cases hy; exact h1
    | 1 => cases hx; cases hy; exact h2
    | i + 2 => simp at hx
theorem al_three {H : Hp} {n : Nat} {a b : Addr} {x1 x2 y1 y2 z1 z2 : V} (ha : H a = some (.tup [x1, y1, z1])) (hb : H b = some (.tup [x2, y2, z2])) (h1 : Al H n x1 x2) (h2 : Al H n y1 y2) (h3 : Al H n z1 z2) : Al H (n + 1) (.ref a) (.ref b) :=
  .tup ha hb rfl (by show 3 <= 1000; decide) fun i x y hx hy => by
    match i with
    | 0 => cases hx; cases hy; exact h1
    | 1 => cases hx; cases hy; exact h2
    | 2 => cases hx; cases hy; exact h3
    | i + 3 => simp at hx
mutual
theorem al_T {H : Hp} : ∀ (t : Tm) {v u : V}, TmIs H t v -> TmIs H t u -> Al H (2 * depth t) v u
  | .num n, v, u, h, g => by
    unfold TmIs at h g; obtain ⟨a, rfl, e⟩ := h; obtain ⟨b, rfl, e'⟩ := g
    rw [depth]
    exact al_two e e' (.str _) (.int _)
  | .text z, v, u, h, g => by
    unfold TmIs at h g; obtain ⟨a, rfl, e⟩ := h; obtain ⟨b, rfl, e'⟩ := g
    rw [depth]
    exact al_two e e' (.str _) (.str _)
  | .row, v, u, h, g => by
    unfold TmIs at h g; obtain ⟨a, rfl, e⟩ := h; obtain ⟨b, rfl, e'⟩ := g
    rw [depth]
    exact al_one e e' (.str _)
  | .mark, v, u, h, g => by
    unfold TmIs at h g; obtain ⟨a, rfl, e⟩ := h; obtain ⟨b, rfl, e'⟩ := g
    rw [depth]
    exact al_one e e' (.str _)
  | .val k z, v, u, h, g => by
    unfold TmIs at h g; obtain ⟨a, rfl, e⟩ := h; obtain ⟨b, rfl, e'⟩ := g
    rw [depth]
    exact al_three e e' (.str _) (.int _) (.str _)
  | .call w ts, v, u, h, g => by
    unfold TmIs at h g
    obtain ⟨a, b, vs, rfl, e, eb, hv, hts⟩ := h
    obtain ⟨a', b', vs', rfl, e', eb', hv', hts'⟩ := g
    rw [depth]
    have q : 2 * (1 + depths ts) = (2 * depths ts + 1) + 1 := by omega
    rw [q]
    have l1 := hts.len
    have l2 := hts'.len
    exact al_three e e' (.str _) (.str _) (.tup eb eb' (by omega) hv fun i x y hx hy => al_Ts ts hts hts' i hx hy)
theorem al_Ts {H : Hp} : ∀ (ts : List Tm) {vs us : List V}, TmsIs H ts vs -> TmsIs H ts us -> ∀ (i : Nat) {x y : V}, vs[i]? = some x -> us[i]? = some y -> Al H (2 * depths ts) x y
  | [], vs, us, h, g, i, x, y, hx, hy => by unfold TmsIs at h; subst h; simp at hx
  | t :: ts, vs, us, h, g, i, x, y, hx, hy => by
    unfold TmsIs at h g
    obtain ⟨v, r, rfl, h1, h2⟩ := h
    obtain ⟨v', r', rfl, g1, g2⟩ := g
    have e : 2 * depths (t :: ts) = max (2 * depth t) (2 * depths ts) := by rw [depths]; omega
    rw [e]
    cases i with
    | zero =>
      simp at hx hy
      subst hx hy
      exact (al_T t h1 g1).mono (by omega)
    | succ i => exact (al_Ts ts h2 g2 i (by simpa using hx) (by simpa using hy)).mono (by omega)
end
def spSame (n : Nat) : Sp := fun vs H Q _ => ∃ v1 v2, vs = [v1, v2] /\ Al H n v1 v2 /\ ∀ H', Same H H' -> Q (.bl true) H'
def spWhl : Sp := fun vs H Q _ => ∃ i : Int, vs = [.int i] /\ Q (.bl true) H
def spDeck (K : PySem.W.Frag) : Sp := fun vs H Q _ => ∃ (a : Addr) (ns : List Int), vs = [.ref a, .int 90] /\ SqL K H a (ns.map V.int) /\ ns.length <= 63 /\
  ∀ (D : Addr) (cs : List Int) (H' : Hp), Same H H' -> H D = none -> H' D = some (.lst (cs.map V.int)) -> cs.length = 90 -> (∀ c ∈ cs, 0 <= c /\ c < 1000000000000000000) -> Q (.ref D) H'
theorem fold_app : ∀ (l : List (Array Nat)) (acc : Array Nat), (l.foldl (· ++ ·) acc).toList = acc.toList ++ (l.map Array.toList).flatten
  | [], acc => by simp
  | a :: l, acc => by rw [List.foldl_cons, fold_app l]; simp
theorem mul_all (g : Nat) (n : Int) : ∀ c ∈ (Txt.mul ⟨#[g]⟩ n).cps.toList, c = g := by
  intro c hc
  unfold Txt.mul at hc
  split at hc
  · exact absurd hc (by simp [Str.empty])
  · split at hc
    · simpa using hc
    · rw [show ((⟨(List.replicate n.toNat (#[g] : Array Nat)).foldl (· ++ ·) #[]⟩ : Str)).cps.toList = _ from fold_app _ _] at hc
      simp only [List.map_replicate, List.nil_append, List.mem_flatten] at hc
      obtain ⟨l, hl, h⟩ := hc
      have h1 : 0 < n /\ l = [g] := by simpa using hl
      rw [h1.2] at h
      simpa using h
abbrev letters26 : Str := "abcdefghijklmnopqrstuvwxyz"
theorem let_in : ∀ c ∈ letters26.cps.toList, letOk c = true := by decide +kernel
theorem mul1_len (g : Nat) {n : Int} (h0 : 0 <= n) : ((Txt.mul ⟨#[g]⟩ n).length : Int) = n := by
  have e := PyProof.Rows.len_mul ⟨#[g]⟩ n
  have e1 : (Str.length ⟨#[g]⟩) = 1 := rfl
  rw [e1, if_neg (by simpa using h0)] at e
  omega
theorem seq_setC {v : V} {i : Nat} {rest : TS} {D : Ends} {σ : St} {H : Hp} (h : rest D (σ.set i (some v)) H) : tSeq (tAsg (tC v) (gName i)) rest D σ H := h
theorem mul_list (g : Nat) {n : Int} (h0 : 0 <= n) : (Txt.mul ⟨#[g]⟩ n).cps.toList = List.replicate n.toNat g := by
  have l := mul1_len g h0
  rw [len_list] at l
  refine List.eq_replicate_iff.mpr ⟨by omega, mul_all g n⟩
def wAt (c : Int) : Nat := (c / 8 % (1 + c % 8)).toNat
def wFill (c : Int) : Nat := letters26.cps.toList.getD (c / 64 % 26).toNat 97
def wSign (c k : Int) : Nat := letters26.cps.toList.getD ((c / 1664 + k) % 26).toNat 97
def wLst (c k : Int) : List Nat := List.replicate (wAt c) (wFill c) ++ wSign c k :: List.replicate ((1 + c % 8).toNat - wAt c - 1) (wFill c)
abbrev words12 : List Str := ["mark", "text", "up", "sign", "down", "form", "num", "row", "add", "many", "show", "a"]
def wrd (c k : Int) : Str := if c % 3 = 1 /\ k < 12 then words12.getD ((c / 3 + k) % 12).toNat "a" else mkS (wLst c k)
theorem words_ok : ∀ z ∈ words12, NmOk z := by
  intro z hz
  simp only [List.mem_cons, List.mem_nil_iff, or_false] at hz
  rcases hz with rfl | rfl | rfl | rfl | rfl | rfl | rfl | rfl | rfl | rfl | rfl | rfl <;> exact ⟨by decide, by decide, by decide⟩
theorem words_inj : ∀ i < 12, ∀ j < 12, words12.getD i "a" = words12.getD j "a" -> i = j := by decide +kernel
theorem words_mem (m : Nat) (h : m < 12) : words12.getD m "a" ∈ words12 := by
  rw [List.getD_eq_getElem?_getD, List.getElem?_eq_getElem (by exact h)]
  exact List.getElem_mem _
theorem let_len : letters26.cps.toList.length = 26 := by decide +kernel
theorem at_let (c : Int) : atI letters26.cps.toList (c % 26) = some (letters26.cps.toList.getD (c % 26).toNat 97) /\ letOk (letters26.cps.toList.getD (c % 26).toNat 97) = true := by
  have h0 := Int.emod_nonneg c (show (26 : Int) ≠ 0 by decide)
  have h1 := Int.emod_lt_of_pos c (show (0 : Int) < 26 by decide)
  generalize c % 26 = m at h0 h1
  obtain ⟨k, rfl⟩ := Int.eq_ofNat_of_zero_le h0
  have hl := let_len
  have hk : k < letters26.cps.toList.length := by omega
  have e : letters26.cps.toList.getD (Int.toNat (k : Int)) 97 = letters26.cps.toList[k] := by
    rw [List.getD_eq_getElem?_getD, show Int.toNat (k : Int) = k from rfl, List.getElem?_eq_getElem hk]
    rfl
  rw [e]
  exact ⟨atI_nat (List.getElem?_eq_getElem hk), let_in _ (List.getElem_mem _)⟩
theorem wrd_ok (c k : Int) : NmOk (wrd c k) := by
  by_cases hw : c % 3 = 1 /\ k < 12
  · unfold wrd
    rw [if_pos hw]
    exact words_ok _ (words_mem _ (by omega))
  have c0 := Int.emod_nonneg c (show (8 : Int) ≠ 0 by decide)
  have c1 := Int.emod_lt_of_pos c (show (0 : Int) < 8 by decide)
  have a0 := Int.emod_nonneg (c / 8) (show (1 + c % 8 : Int) ≠ 0 by omega)
  have a1 := Int.emod_lt_of_pos (c / 8) (show (0 : Int) < 1 + c % 8 by omega)
  unfold wrd NmOk
  rw [if_neg hw, mk_list]
  refine ⟨by unfold wLst; simp, ?_, fun x hx => ?_⟩
  · unfold wLst wAt
    rw [List.length_append, List.length_cons, List.length_replicate, List.length_replicate]
    omega
  · unfold wLst at hx
    rcases List.mem_append.mp hx with h | h
    · rw [List.eq_of_mem_replicate h]; exact (at_let (c / 64)).2
    · rcases List.mem_cons.mp h with rfl | h
      · exact (at_let (c / 1664 + k)).2
      · rw [List.eq_of_mem_replicate h]; exact (at_let (c / 64)).2
theorem let_inj : ∀ i < 26, ∀ j < 26, letters26.cps.toList.getD i 97 = letters26.cps.toList.getD j 97 -> i = j := by decide +kernel
theorem wrd_inj {c k j : Int} (h0 : 0 <= k) (h1 : k < 12) (g0 : 0 <= j) (g1 : j < 12) (e : wrd c k = wrd c j) : k = j := by
  by_cases hw : c % 3 = 1
  · unfold wrd at e
    rw [if_pos ⟨hw, h1⟩, if_pos ⟨hw, g1⟩] at e
    have := words_inj _ (by omega) _ (by omega) e
    omega
  have e : wLst c k = wLst c j := by
    unfold wrd at e
    rw [if_neg (fun z => hw z.1), if_neg (fun z => hw z.1)] at e
    have := congrArg (fun s : Str => s.cps.toList) e
    simpa [mk_list] using this
  unfold wLst at e
  have e2 := (List.cons.inj (List.append_cancel_left e)).1
  unfold wSign at e2
  have k0 := Int.emod_nonneg (c / 1664 + k) (show (26 : Int) ≠ 0 by decide)
  have k1 := Int.emod_lt_of_pos (c / 1664 + k) (show (0 : Int) < 26 by decide)
  have j0 := Int.emod_nonneg (c / 1664 + j) (show (26 : Int) ≠ 0 by decide)
  have j1 := Int.emod_lt_of_pos (c / 1664 + j) (show (0 : Int) < 26 by decide)
  have := let_inj _ (by omega) _ (by omega) e2
  omega
theorem wrd_tx (c k : Int) : TxOk (wrd c k) := by
  obtain ⟨_, h2, h3⟩ := wrd_ok c k
  refine ⟨by rw [len_list]; omega, fun x hx => ?_⟩
  have := h3 x hx
  unfold letOk at this
  rw [Bool.and_eq_true, decide_eq_true_eq, decide_eq_true_eq] at this
  omega
def spWord : Sp := fun vs H Q _ => ∃ c k : Int, vs = [.int c, .int k] /\ ∀ H', Same H H' -> Q (.str (wrd c k)) H'
section
variable {P : Program} {w : World} {K : PySem.W.Frag} {mg : Str -> Option Value} {base : Heap} {T : Adr}
theorem ok_word (X : Tx K w mg T) : FnOk P w K mg base CX0 1 T.qword T.d_qword ["_law_cell", "_law_k"] spWord := by
  refine X.F_qword.okQ sc_qword (fun vs H Q E h => ?_) (fun cdv A outer s H vs Q E hr h => ?_)
  · obtain ⟨_, _, rfl, _⟩ := h
    rfl
  obtain ⟨c, k, rfl, q⟩ := h
  refine ⟨_, (qss_cons (qs_set (i := 2) sc_qword.nd rfl (Or.inl rfl) qe_str) (qss_cons (qs_if (qw_pt (qw_and (qt_cmpR op_eq (qe_op op_mod (qv 0) qe_int) qe_int (nomark _)) (qw_and1 (qt_cmpR op_lt (qv 1) qe_int (nomark _))))) (qss_cons (qs_set (i := 3) sc_qword.nd rfl (Or.inl rfl) (qe_lst (qaC qe_str (qaC qe_str (qaC qe_str (qaC qe_str (qaC qe_str (qaC qe_str (qaC qe_str (qaC qe_str (qaC qe_str (qaC qe_str (qaC qe_str (qaC qe_str qa_nil)))))))))))))) (qss_one (qs_ret (qe_ix ix_list (qv 3) (qe_op op_mod (qe_op op_add (qe_op op_fdiv (qv 0) qe_int) (qv 1)) qe_int) (fun _ _ => rfl))))) qss_nil) (qss_cons (qs_set (i := 4) sc_qword.nd rfl (Or.inl rfl) (qe_op op_add qe_int (qe_op op_mod (qv 0) qe_int))) (qss_cons (qs_set (i := 5) sc_qword.nd rfl (Or.inl rfl) (qe_op op_mod (qe_op op_fdiv (qv 0) qe_int) (qv 4))) (qss_cons (qs_set (i := 6) sc_qword.nd rfl (Or.inl rfl) (qe_ix ix_str (qv 2) (qe_op op_mod (qe_op op_fdiv (qv 0) qe_int) qe_int) (fun _ _ => rfl))) (qss_one (qs_ret (qe_op op_add_str (qe_op op_add_str (qe_op op_rep_str (qv 6) (qv 5)) (qe_ix ix_str (qv 2) (qe_op op_mod (qe_op op_add (qe_op op_fdiv (qv 0) qe_int) (qv 1)) qe_int) (fun _ _ => rfl))) (qe_op op_rep_str (qv 6) (qe_op op_sub (qe_op op_sub (qv 4) (qv 5)) qe_int)))))))))), ?_⟩
  have c0 := Int.emod_nonneg c (show (8 : Int) ≠ 0 by decide)
  have c1 := Int.emod_lt_of_pos c (show (0 : Int) < 8 by decide)
  have hpos : (0 : Int) < 1 + c % 8 := by omega
  have a0 := Int.emod_nonneg (c / 8) (show (1 + c % 8 : Int) ≠ 0 by omega)
  have a1 := Int.emod_lt_of_pos (c / 8) hpos
  have hg := (at_let (c / 64)).1
  have hg2 := (at_let (c / 1664 + k)).1
  have words : ∀ hc : c % 3 = 1, ∀ hk : k < 12, atI (words12.map V.str) ((c / 3 + k) % 12) = some (.str (wrd c k)) := fun hc hk => by
    have z0 := Int.emod_nonneg (c / 3 + k) (show (12 : Int) ≠ 0 by decide)
    have z1 := Int.emod_lt_of_pos (c / 3 + k) (show (0 : Int) < 12 by decide)
    unfold wrd
    rw [if_pos ⟨hc, hk⟩]
    generalize (c / 3 + k) % 12 = m at z0 z1
    obtain ⟨i, rfl⟩ := Int.eq_ofNat_of_zero_le z0
    have hi : i < words12.length := by show i < 12; omega
    refine atI_nat ?_
    rw [List.getElem?_map, List.getElem?_eq_getElem hi, show Int.toNat (i : Int) = i from rfl, List.getD_eq_getElem?_getD, List.getElem?_eq_getElem hi]
    rfl
  refine seq_setC ?_
  refine seq_ifS_by (fun H1 => H1 = H /\ c % 3 = 1 /\ k < 12) (fun H1 => H1 = H /\ ¬ (c % 3 = 1 /\ k < 12)) (fun Q' qT qF => ?_) (fun H1 ⟨e, e1, e2⟩ => ?_) (fun H1 ⟨e, hne⟩ => ?_)
  · refine ⟨_, rfl, _, _, rfl, rfl, (by show (0 : Int) < 3; decide), rfl, _, rfl, iteDd (fun h => ⟨_, rfl, _, _, rfl, rfl, _, rfl, ?_⟩) (fun h => qF _ ⟨rfl, fun z => h (by show V.int (c % 3) = V.int 1; rw [z.1])⟩)⟩
    by_cases h2 : k < 12
    · rw [decide_eq_true h2]; exact qT _ ⟨rfl, V.int.inj h, h2⟩
    · rw [decide_eq_false h2]; exact qF _ ⟨rfl, fun z => h2 z.2⟩
  · subst e
    refine ⟨(by show 12 <= sizeLine; decide), fun wl hwl => ?_⟩
    refine ⟨_, rfl, _, rfl, _, _, rfl, rfl, ⟨by decide, by decide⟩, _, rfl, _, _, rfl, rfl, _, _, rfl, rfl, (by show (0 : Int) < 12; decide), wl, _, _, .str (wrd c k), rfl, rfl, SqL.of upd_same, words e1 e2, ?_⟩
    exact q _ (same_new hwl _)
  subst e
  refine ⟨_, rfl, _, _, rfl, rfl, (by show (0 : Int) < 8; decide), _, _, rfl, rfl, ?_⟩
  refine ⟨_, rfl, _, _, rfl, rfl, ⟨by decide, by decide⟩, _, rfl, _, _, rfl, rfl, hpos, ?_⟩
  refine ⟨_, rfl, _, rfl, _, _, rfl, rfl, ⟨by decide, by decide⟩, _, _, rfl, rfl, (by show (0 : Int) < 26; decide), letters26, _, wFill c, rfl, rfl, (by decide +kernel), hg, ?_⟩
  have l1 := mul1_len (wFill c) (n := c / 8 % (1 + c % 8)) (by omega)
  have l2 := mul1_len (wFill c) (n := 1 + c % 8 - c / 8 % (1 + c % 8) - 1) (by omega)
  have e1 : (Str.length ⟨#[wFill c]⟩) = 1 := rfl
  have e2 : (Str.length ⟨#[wSign c k]⟩) = 1 := rfl
  refine ⟨_, rfl, _, rfl, _, _, rfl, rfl, (by rw [e1]; decide), by omega, by omega, _, rfl, _, rfl, _, _, rfl, rfl, ⟨by decide, by decide⟩, _, rfl, _, _, rfl, rfl, _, _, rfl, rfl, (by show (0 : Int) < 26; decide), letters26, _, wSign c k, rfl, rfl, (by decide +kernel), hg2, _, _, rfl, rfl, fits2 (by omega), ?_⟩
  refine ⟨_, rfl, _, rfl, _, rfl, _, _, rfl, rfl, _, _, rfl, rfl, _, _, rfl, rfl, (by rw [e1]; decide), by omega, by omega, _, _, rfl, rfl, fits2 (by rw [app_len]; omega), ?_⟩
  have ez : Txt.mul ⟨#[wFill c]⟩ (c / 8 % (1 + c % 8)) ++ (⟨#[wSign c k]⟩ : Str) ++ Txt.mul ⟨#[wFill c]⟩ (1 + c % 8 - c / 8 % (1 + c % 8) - 1) = wrd c k := by
    refine str_ext ?_
    unfold wrd
    rw [if_neg hne]
    unfold wLst wAt
    rw [mk_list, app_list, app_list, mul_list _ (by omega), mul_list _ (by omega)]
    have e : (1 + c % 8 - c / 8 % (1 + c % 8) - 1).toNat = (1 + c % 8).toNat - (c / 8 % (1 + c % 8)).toNat - 1 := by omega
    rw [e]
    simp
  rw [ez]
  exact q _ (Same.refl _)
theorem ok_whole' (X : Tx K w mg T) : FnOk P w K mg base CX0 1 T.qwhole T.d_qwhole ["_law_found"] spWhl := by
  refine X.F_qwhole.okQ sc_qwhole (fun vs H Q E h => ?_) (fun cdv A outer s H vs Q E hr h => ?_)
  · obtain ⟨_, rfl, _⟩ := h
    rfl
  obtain ⟨i, rfl, q⟩ := h
  refine ⟨_, (qss_one (qs_ret (qe_and (qe_callB call_isinst rfl X.z_isinstance PyProof.Rows.boot_isinstance (qaN (qv 0) (qaN (qe_bltn rfl X.z_int PyProof.Rows.boot_int rfl (v := .ty "int")) qa_nil))) (qe_one (qe_not (qe_callB call_isinst rfl X.z_isinstance PyProof.Rows.boot_isinstance (qaN (qv 0) (qaN (qe_bltn rfl X.z_bool PyProof.Rows.boot_bool rfl (v := .ty "bool")) qa_nil)))))))), ?_⟩
  exact ⟨_, rfl, _, "int", _, _, rfl, .int i, k_ii, _, rfl, iteT ⟨_, rfl, _, "bool", _, _, rfl, .int i, k_ib, _, rfl, q⟩⟩
theorem ok_same (X : Tx K w mg T) : ∀ n : Nat, FnOk P w K mg base CX0 (n + 2) T.qsame T.d_qsame ["_law_found", "_law_due"] (spSame n) := by
  intro n
  induction n with
  | zero =>
    have G_qwhole := ok_whole' (P := P) (w := w) (base := base) X
    have G_qsame : FnOk P w K mg base CX0 0 T.qsame T.d_qsame ["_law_found", "_law_due"] (fun _ _ _ _ => False) := ⟨fun _ _ _ _ h => h.elim, fun _ _ _ _ _ _ _ _ _ _ _ _ _ h => h.elim⟩
    have G_qsame := G_qsame.mono (show 0 <= 1 by decide)
    refine X.F_qsame.okQ sc_qsame (fun vs H Q E h => ?_) (fun cdv A outer s H vs Q E hr h => ?_)
    · obtain ⟨_, _, rfl, _⟩ := h
      rfl
    obtain ⟨v1, v2, rfl, al, q⟩ := h
    refine ⟨_, (qss_cons (qs_if (qt_val (qe_callB call_isinst rfl X.z_isinstance PyProof.Rows.boot_isinstance (qaN (qv 1) (qaN (qe_bltn rfl X.z_str PyProof.Rows.boot_str rfl (v := .ty "str")) qa_nil)))) (qss_one (qs_ret (qe_and (qe_callB call_isinst rfl X.z_isinstance PyProof.Rows.boot_isinstance (qaN (qv 0) (qaN (qe_bltn rfl X.z_str PyProof.Rows.boot_str rfl (v := .ty "str")) qa_nil))) (qe_one (qe_cmpR op_eq (qv 0) (qv 1) (nomark _)))))) qss_nil) (qss_cons (qs_if (qt_not (qt_val (qe_callB call_isinst rfl X.z_isinstance PyProof.Rows.boot_isinstance (qaN (qv 1) (qaN (qe_bltn rfl X.z_tuple PyProof.Rows.boot_tuple rfl (v := .ty "tuple")) qa_nil))))) (qss_one (qs_ret (qe_and (qe_call G_qwhole hr rfl X.m_qwhole X.F_qwhole.kp X.b_qwhole .nil pass0 (qaN (qv 0) qa_nil)) (qe_one (qe_cmpR op_eq (qv 0) (qv 1) (nomark _)))))) qss_nil) (qss_cons (qs_if (qw_pt (qw_or (qt_not (qt_val (qe_callB call_isinst rfl X.z_isinstance PyProof.Rows.boot_isinstance (qaN (qv 0) (qaN (qe_bltn rfl X.z_tuple PyProof.Rows.boot_tuple rfl (v := .ty "tuple")) qa_nil))))) (qw_or1 (qt_cmpR op_ne (qe_callB (call_len_seq.or call_len_str) rfl X.z_len PySem.boot_len (qaN (qv 0) qa_nil)) (qe_callB (call_len_seq.or call_len_str) rfl X.z_len PySem.boot_len (qaN (qv 1) qa_nil)) (nomark _))))) qss_never qss_nil) (qss_cons (qs_for PassesOwn.never rfl (qi_zipT rfl X.z_zip (qaN (qv 0) (qaN (qv 1) qa_nil))) (qg_tup rfl (qgs_cons (qg_name (i := 2) sc_qsame.nd rfl (Or.inl rfl)) (qgs_cons (qg_name (i := 3) sc_qsame.nd rfl (Or.inl rfl)) qgs_nil))) (qss_one (qs_if (qt_not (qt_val (qe_call G_qsame hr rfl X.m_qsame X.F_qsame.kp X.b_qsame .nil pass0 (qaN (qv 2) (qaN (qv 3) qa_nil))))) qss_never qss_nil))) (qss_one (qs_ret qe_bl)))))), ?_⟩
    have qs := q H (Same.refl H)
    cases al with
    | str z => exact ⟨_, rfl, _, "str", _, _, rfl, .str z, k_ss, _, rfl, iteT ⟨_, rfl, _, "str", _, _, rfl, .str z, k_ss, _, rfl, iteT ⟨_, rfl, _, rfl, rfl, by rw [decide_eq_true rfl]; exact qs⟩⟩⟩
    | int i => exact ⟨_, rfl, _, "str", _, _, rfl, .int i, k_is', _, rfl, iteF ⟨_, rfl, _, "tuple", _, _, rfl, .int i, k_it, _, rfl, iteT ⟨_, rfl, i, rfl, _, rfl, iteT ⟨_, rfl, _, rfl, rfl, by rw [decide_eq_true rfl]; exact qs⟩⟩⟩⟩
  | succ n ih =>
    have G_qwhole := (ok_whole' (P := P) (w := w) (base := base) X).mono (show 1 <= n + 2 by omega)
    have G_qsame := ih
    refine X.F_qsame.okQ sc_qsame (fun vs H Q E h => ?_) (fun cdv A outer s H vs Q E hr h => ?_)
    · obtain ⟨_, _, rfl, _⟩ := h
      rfl
    obtain ⟨v1, v2, rfl, al, q⟩ := h
    refine ⟨_, (qss_cons (qs_if (qt_val (qe_callB call_isinst rfl X.z_isinstance PyProof.Rows.boot_isinstance (qaN (qv 1) (qaN (qe_bltn rfl X.z_str PyProof.Rows.boot_str rfl (v := .ty "str")) qa_nil)))) (qss_one (qs_ret (qe_and (qe_callB call_isinst rfl X.z_isinstance PyProof.Rows.boot_isinstance (qaN (qv 0) (qaN (qe_bltn rfl X.z_str PyProof.Rows.boot_str rfl (v := .ty "str")) qa_nil))) (qe_one (qe_cmpR op_eq (qv 0) (qv 1) (nomark _)))))) qss_nil) (qss_cons (qs_if (qt_not (qt_val (qe_callB call_isinst rfl X.z_isinstance PyProof.Rows.boot_isinstance (qaN (qv 1) (qaN (qe_bltn rfl X.z_tuple PyProof.Rows.boot_tuple rfl (v := .ty "tuple")) qa_nil))))) (qss_one (qs_ret (qe_and (qe_call G_qwhole hr rfl X.m_qwhole X.F_qwhole.kp X.b_qwhole .nil pass0 (qaN (qv 0) qa_nil)) (qe_one (qe_cmpR op_eq (qv 0) (qv 1) (nomark _)))))) qss_nil) (qss_cons (qs_if (qw_pt (qw_or (qt_not (qt_val (qe_callB call_isinst rfl X.z_isinstance PyProof.Rows.boot_isinstance (qaN (qv 0) (qaN (qe_bltn rfl X.z_tuple PyProof.Rows.boot_tuple rfl (v := .ty "tuple")) qa_nil))))) (qw_or1 (qt_cmpR op_ne (qe_callB (call_len_seq.or call_len_str) rfl X.z_len PySem.boot_len (qaN (qv 0) qa_nil)) (qe_callB (call_len_seq.or call_len_str) rfl X.z_len PySem.boot_len (qaN (qv 1) qa_nil)) (nomark _))))) qss_never qss_nil) (qss_cons (qs_for PassesOwn.never rfl (qi_zipT rfl X.z_zip (qaN (qv 0) (qaN (qv 1) qa_nil))) (qg_tup rfl (qgs_cons (qg_name (i := 2) sc_qsame.nd rfl (Or.inl rfl)) (qgs_cons (qg_name (i := 3) sc_qsame.nd rfl (Or.inl rfl)) qgs_nil))) (qss_one (qs_if (qt_not (qt_val (qe_call G_qsame hr rfl X.m_qsame X.F_qsame.kp X.b_qsame .nil pass0 (qaN (qv 2) (qaN (qv 3) qa_nil))))) qss_never qss_nil))) (qss_one (qs_ret qe_bl)))))), ?_⟩
    have qs := q H (Same.refl H)
    cases al with
    | str z => exact ⟨_, rfl, _, "str", _, _, rfl, .str z, k_ss, _, rfl, iteT ⟨_, rfl, _, "str", _, _, rfl, .str z, k_ss, _, rfl, iteT ⟨_, rfl, _, rfl, rfl, by rw [decide_eq_true rfl]; exact qs⟩⟩⟩
    | int i => exact ⟨_, rfl, _, "str", _, _, rfl, .int i, k_is', _, rfl, iteF ⟨_, rfl, _, "tuple", _, _, rfl, .int i, k_it, _, rfl, iteT ⟨_, rfl, i, rfl, _, rfl, iteT ⟨_, rfl, _, rfl, rfl, by rw [decide_eq_true rfl]; exact qs⟩⟩⟩⟩
    | @tup _ a b xs ys ha hb e hl hi =>
      refine ⟨_, rfl, _, "str", _, _, rfl, .tup hb, k_ts, _, rfl, iteF ⟨_, rfl, _, "tuple", _, _, rfl, .tup hb, k_tt, _, rfl, iteF ⟨_, rfl, _, "tuple", _, _, rfl, .tup ha, k_tt, _, rfl, iteF ?_⟩⟩⟩
      refine ⟨_, rfl, .inl ⟨a, xs, rfl, .inr (SqT.of ha), _, rfl, .inl ⟨b, ys, rfl, .inr (SqT.of hb), rfl, _, rfl, iteNS (by rw [e]) ?_⟩⟩⟩
      refine ⟨_, rfl, _, rfl, a, b, xs, ys, rfl, SqT.of ha, SqT.of hb, e, for_wt (fun i σ H' => (∃ x2 x3, σ = [some (.ref a), some (.ref b), x2, x3]) /\ Same H H') ⟨⟨none, none, rfl⟩, Same.refl _⟩ (fun i σ H' _ ⟨_, sm⟩ => ⟨SqT.of (sm _ _ ha), SqT.of (sm _ _ hb)⟩) ?_ ?_⟩
      · rintro i T' vs' σ H' hlt ⟨x, y, hx, hy, rfl⟩ ⟨⟨x2, x3, rfl⟩, sm⟩ hT
        have s1 := same_new hT (.tup [x, y])
        refine ⟨T', _, rfl, SqT.of upd_same, rfl, _, _, rfl, _, _, rfl, rfl, ?_⟩
        exact ⟨_, rfl, _, rfl, x, y, rfl, ((hi i x y hx hy).same sm).same s1, fun H2 s2 => ⟨_, rfl, iteF ⟨⟨_, _, rfl⟩, (sm.trans s1).trans s2⟩⟩⟩
      · rintro σ H' ⟨⟨x2, x3, rfl⟩, sm⟩
        exact q H' sm
theorem ok_deck (X : Tx K w mg T) : FnOk P w K mg base CX0 1 T.qdeck T.d_qdeck ["_law_script", "_law_many"] (spDeck K) := by
  refine X.F_qdeck.okQ sc_qdeck (fun vs H Q E h => ?_) (fun cdv A outer s H vs Q E hr h => ?_)
  · obtain ⟨_, _, rfl, _⟩ := h
    rfl
  obtain ⟨a, ns, rfl, hS, h63, q⟩ := h
  refine ⟨_, (qss_cons (qs_setC (ys := []) (js := []) rfl rfl (qi_list (qe_slice sl_list (qv 0) qo_none (qo_some (qv 1)))) (fun _ _ _ _ _ => qif_nil) (fun _ _ _ _ _ => (qe_op op_mod (qv 0) (qe_op op_pow qe_int qe_int))) (qg_name (i := 2) sc_qdeck.nd rfl (Or.inl rfl)) rfl) (qss_cons (qs_set (i := 3) sc_qdeck.nd rfl (Or.inl rfl) (qe_op op_add qe_int (qe_callB call_len_seq rfl X.z_len PySem.boot_len (qaN (qv 2) qa_nil)))) (qss_cons (qs_for PassesOwn.never rfl (qi_list (qv 2)) (qg_name (i := 4) sc_qdeck.nd rfl (Or.inl rfl)) (qss_one (qs_set (i := 3) sc_qdeck.nd rfl (Or.inl rfl) (qe_op op_mod (qe_op op_add (qe_op op_mul (qv 3) qe_int) (qv 4)) qe_int)))) (qss_cons (qs_while PassesOwn.never (qt_cmpR op_lt (qe_callB call_len_seq rfl X.z_len PySem.boot_len (qaN (qv 2) qa_nil)) (qv 1) (nomark _)) (qss_cons (qs_set (i := 3) sc_qdeck.nd rfl (Or.inl rfl) (qe_op op_mod (qe_op op_add (qe_op op_mul (qv 3) qe_int) qe_int) qe_int)) (qss_one (qs_expr (qe_bm PySem.F.plainAttrs_list PySem.F.slot_list_append PySem.F.type_list_append mt_append (qv 2) (qaN (qv 3) qa_nil)))))) (qss_one (qs_ret (qe_listRev rfl rfl X.z_list rfl X.z_reversed (qv 2)))))))), ?_⟩
  refine ⟨_, rfl, _, rfl, _, rfl, a, _, rfl, hS, fun sl hsl => ?_⟩
  have ecs : cutV (ns.map V.int) none (some 90) = (ns.take 90).map V.int := by
    rw [show (some 90 : Option Int) = some ((90 : Nat) : Int) from rfl, cut_take', List.map_take]
  rw [ecs]
  generalize hns : ns.take 90 = ms
  have lms : ms.length <= 90 := by rw [<- hns, List.length_take]; omega
  clear hns
  have s0 := same_new hsl (.lst (ms.map V.int))
  refine ⟨sl, rfl, ⟨_, SqL.of upd_same⟩, fun D hD => ?_⟩
  refine comp_lstM (K := K) (ys := (ms.map fun n => n % 10 ^ Int.toNat 18).map V.int) (fitsL (by rw [List.length_map]; omega)) (by simp) (SqL.of upd_same) hD (fun i x y H2 hx hy s2 Q' k => ?_) fun H1 s1 hD1 => ?_
  · rw [List.getElem?_map] at hx
    rw [List.getElem?_map, List.getElem?_map] at hy
    cases e : ms[i]? with
    | none => rw [e] at hx; cases hx
    | some n =>
      rw [e] at hx hy
      cases hx
      cases hy
      exact ⟨_, rfl, _, _, rfl, rfl, ⟨by decide, by decide, by decide⟩, _, _, rfl, rfl, (by show (0 : Int) < 10 ^ Int.toNat 18; decide), k H2 (Same.refl H2)⟩
  have hD0 : H D = none := s0.free hD
  have hcs : ∀ c ∈ (ms.map fun n => n % 10 ^ Int.toNat 18), 0 <= c /\ c < 1000000000000000000 := fun c hc => by
    obtain ⟨n, _, rfl⟩ := List.mem_map.mp hc
    exact ⟨Int.emod_nonneg _ (by decide), Int.emod_lt_of_pos _ (by decide)⟩
  have lcs : (ms.map fun n => n % 10 ^ Int.toNat 18).length <= 90 := by rw [List.length_map]; exact lms
  generalize (ms.map fun n => n % 10 ^ Int.toNat 18) = cs at hD1 hcs lcs
  refine ⟨_, rfl, D, _, rfl, .inl (SqL.of hD1), _, _, rfl, rfl, ?_⟩
  refine ⟨_, rfl, D, rfl, ⟨_, SqL.of hD1⟩, ?_⟩
  refine for_list (K := K) (a := D) (xs := cs.map V.int) (fun i σ H' => (∃ sd x4, σ = [some (.ref a), some (.int 90), some (.ref D), some (.int sd), x4]) /\ H' = H1) ⟨⟨_, _, rfl⟩, rfl⟩ (fun i σ H' _ ⟨_, e⟩ => by rw [e]; exact SqL.of hD1) ?_ ?_
  · rintro i y σ H' hy ⟨⟨sd, x4, rfl⟩, rfl⟩
    rw [List.getElem?_map] at hy
    cases e : cs[i]? with
    | none => rw [e] at hy; cases hy
    | some n =>
      rw [e] at hy
      cases hy
      exact ⟨_, rfl, _, _, rfl, rfl, .inr ⟨by decide, by decide⟩, _, rfl, _, _, rfl, rfl, _, _, rfl, rfl, (by show (0 : Int) < 999999937; decide), ⟨_, _, rfl⟩, rfl⟩
  · rintro σ H' ⟨⟨sd, x4, rfl⟩, rfl⟩
    refine ⟨fun m σ H' => ∃ (sd : Int) (x4 : Option V) (cs : List Int), m = 90 - cs.length /\ σ = [some (.ref a), some (.int 90), some (.ref D), some (.int sd), x4] /\ Same H H' /\ H' D = some (.lst (cs.map V.int)) /\ cs.length <= 90 /\ ∀ c ∈ cs, 0 <= c /\ c < 1000000000000000000, ⟨_, sd, x4, cs, rfl, rfl, s0.trans s1, hD1, lcs, hcs⟩, ?_⟩
    rintro m σ H2 ⟨sd, x4, cs, rfl, rfl, sm, hd, lc, hc⟩
    refine ⟨_, rfl, D, _, rfl, .inl (SqL.of hd), _, rfl, _, _, rfl, rfl, _, rfl, iteDd (fun hlt => ⟨_, fun σ' H'' h => h, ?_⟩) (fun hge => ?_)⟩
    · rw [List.length_map] at hlt
      refine ⟨_, rfl, _, _, rfl, rfl, .inr ⟨by decide, by decide⟩, _, _, rfl, rfl, _, _, rfl, rfl, (by show (0 : Int) < 2147483647; decide), ?_⟩
      have b0 := Int.emod_nonneg (sd * 48271 + 11) (show (2147483647 : Int) ≠ 0 by decide)
      have b1 := Int.emod_lt_of_pos (sd * 48271 + 11) (show (0 : Int) < 2147483647 by decide)
      refine ⟨_, rfl, .inl ⟨rfl, _, SqL.of hd⟩, _, rfl, D, _, _, rfl, rfl, hd, fitsL (by rw [List.length_map]; omega), ?_⟩
      refine ⟨90 - (cs ++ [(sd * 48271 + 11) % 2147483647]).length, by rw [List.length_append, List.length_singleton]; omega, _, _, cs ++ [(sd * 48271 + 11) % 2147483647], rfl, rfl, same_upd hD0 sm, by rw [upd_same, List.map_append]; rfl, by rw [List.length_append, List.length_singleton]; omega, fun c hm => ?_⟩
      rcases List.mem_append.mp hm with h | h
      · exact hc c h
      · rw [List.mem_singleton.mp h]
        exact ⟨b0, by omega⟩
    · rw [List.length_map] at hge
      refine ⟨_, rfl, D, _, rfl, SqL.of hd, fun r hr => ?_⟩
      refine q r cs.reverse _ (sm.trans (same_new hr _)) (sm.free hr) (by rw [upd_same, List.map_reverse]) (by rw [List.length_reverse]; omega) fun c hm => hc c (List.mem_reverse.mp hm)
end
end K12
namespace TM
open PySem L2
abbrev KEnv := Int -> Str -> Str -> Prop
def NEEDK : List (Str × List Str × Str) := [("add", ["num", "num"], "num"), ("sub", ["num", "num"], "num"), ("mul", ["num", "num"], "num"), ("less", ["num", "num"], "num"), ("glue", ["text", "text"], "text"), ("show", ["num"], "text"), ("size", ["text"], "num"), ("put", ["row", "num"], "row"), ("link", ["row", "row"], "row"), ("at", ["row", "num"], "num"), ("many", ["row"], "num")]
def Mk (w : Str) (ks : List Str) (k : Str) : Prop := (w = "pick" /\ ks = [("num" : Str), k, k]) \/ (w, ks, k) ∈ NEEDK
mutual
def Kd (E : KEnv) : Tm -> Str -> Prop
  | .num _, k => k = "num"
  | .text _, k => k = "text"
  | .row, k => k = "row"
  | .mark, k => k = "num"
  | .val i z, k => E i z k
  | .call w ts, k => ∃ ks, Kds E ts ks /\ Mk w ks k
def Kds (E : KEnv) : List Tm -> List Str -> Prop
  | [], ks => ks = []
  | t :: ts, ks => ∃ k r, ks = k :: r /\ Kd E t k /\ Kds E ts r
end
theorem Kds.len {E : KEnv} : ∀ {ts : List Tm} {ks : List Str}, Kds E ts ks -> ts.length = ks.length
  | [], ks, h => by unfold Kds at h; subst h; rfl
  | t :: ts, ks, h => by
    unfold Kds at h
    obtain ⟨k, r, rfl, _, z⟩ := h
    rw [List.length_cons, List.length_cons, Kds.len z]
theorem Kds.get {E : KEnv} : ∀ {ts : List Tm} {ks : List Str} {i : Nat} {t : Tm}, Kds E ts ks -> ts[i]? = some t -> ∃ k, ks[i]? = some k /\ Kd E t k
  | [], ks, i, t, h, e => by simp at e
  | x :: ts, ks, 0, t, h, e => by
    unfold Kds at h
    obtain ⟨k, r, rfl, y, z⟩ := h
    simp at e
    subst e
    exact ⟨k, rfl, y⟩
  | x :: ts, ks, i + 1, t, h, e => by
    unfold Kds at h
    obtain ⟨k, r, rfl, y, z⟩ := h
    obtain ⟨k', hk, q⟩ := Kds.get (i := i) z (by simpa using e)
    exact ⟨k', by simpa using hk, q⟩
theorem mem_addTo {acc : List Pr} {p q : Pr} (h : q ∈ addTo acc p) : q ∈ acc \/ q = p := by
  unfold addTo at h
  split at h
  · exact .inl h
  · rcases List.mem_append.mp h with h | h
    · exact .inl h
    · exact .inr (List.mem_singleton.mp h)
theorem mem_uni : ∀ {ps acc : List Pr} {q : Pr}, q ∈ uni acc ps -> q ∈ acc \/ q ∈ ps
  | [], acc, q, h => .inl h
  | p :: ps, acc, q, h => by
    rcases mem_uni (ps := ps) (acc := addTo acc p) h with h | h
    · rcases mem_addTo h with h | rfl
      · exact .inl h
      · exact .inr (by simp)
    · exact .inr (by simp [h])
mutual
theorem kd_names {E : KEnv} : ∀ (t : Tm) {k : Str}, Kd E t k -> ∀ p ∈ named t, ∃ kd, E p.1 p.2 kd
  | .num _, k, h, p, m => by rw [named] at m; cases m
  | .text _, k, h, p, m => by rw [named] at m; cases m
  | .row, k, h, p, m => by rw [named] at m; cases m
  | .mark, k, h, p, m => by rw [named] at m; cases m
  | .val i z, k, h, p, m => by
    rw [named] at m
    rw [List.mem_singleton.mp m]
    unfold Kd at h
    exact ⟨k, h⟩
  | .call w ts, k, h, p, m => by
    unfold Kd at h
    obtain ⟨ks, hks, _⟩ := h
    rw [named] at m
    exact kds_names ts hks (acc := []) (fun q hq => nomatch hq) p m
theorem kds_names {E : KEnv} : ∀ (ts : List Tm) {ks : List Str}, Kds E ts ks -> ∀ {acc : List Pr}, (∀ p ∈ acc, ∃ kd, E p.1 p.2 kd) -> ∀ p ∈ nameds acc ts, ∃ kd, E p.1 p.2 kd
  | [], ks, h, acc, ha, p, m => by rw [nameds] at m; exact ha p m
  | t :: ts, ks, h, acc, ha, p, m => by
    unfold Kds at h
    obtain ⟨k, r, rfl, y, z⟩ := h
    rw [nameds] at m
    refine kds_names ts z (acc := uni acc (named t)) (fun q hq => ?_) p m
    rcases mem_uni hq with hq | hq
    · exact ha q hq
    · exact kd_names t y q hq
end
structure TmG (E : KEnv) (kd : Str) (d : Nat) (n : Int) (t : Tm) : Prop where
  kind : Kd E t kd
  dep : depth t <= d
  pts : parts t <= n
theorem TmG.mono {E : KEnv} {kd : Str} {d d' : Nat} {n n' : Int} {t : Tm} (h : TmG E kd d n t) (hd : d <= d') (hn : n <= n') : TmG E kd d' n' t := ⟨h.kind, Nat.le_trans h.dep hd, Int.le_trans h.pts hn⟩
theorem tg_val {E : KEnv} {k : Int} {z kd : Str} (h : E k z kd) : TmG E kd 1 1 (.val k z) := ⟨by unfold Kd; exact h, by rw [depth]; decide, by rw [parts]; decide⟩
theorem tg_num {E : KEnv} {n : Int} : TmG E "num" 1 1 (.num n) := ⟨by unfold Kd; rfl, by rw [depth]; decide, by rw [parts]; decide⟩
theorem tg_text {E : KEnv} {z : Str} : TmG E "text" 1 1 (.text z) := ⟨by unfold Kd; rfl, by rw [depth]; decide, by rw [parts]; decide⟩
theorem tg_row {E : KEnv} : TmG E "row" 1 1 .row := ⟨by unfold Kd; rfl, by rw [depth]; decide, by rw [parts]; decide⟩
theorem tg_mark {E : KEnv} : TmG E "num" 1 1 .mark := ⟨by unfold Kd; rfl, by rw [depth]; decide, by rw [parts]; decide⟩
theorem tg1 {E : KEnv} {w k k1 : Str} {d : Nat} {n : Int} {t : Tm} (h : TmG E k1 d n t) (m : Mk w [k1] k) : TmG E k (d + 1) (n + 1) (.call w [t]) := by
  refine ⟨?_, ?_, ?_⟩
  · unfold Kd Kds Kds
    exact ⟨_, ⟨k1, [], rfl, h.kind, rfl⟩, m⟩
  · rw [depth, depths, depths]
    have := h.dep
    omega
  · rw [parts, partss, partss]
    have := h.pts
    omega
theorem tg2 {E : KEnv} {w k k1 k2 : Str} {d1 d2 : Nat} {n1 n2 : Int} {t u : Tm} (h : TmG E k1 d1 n1 t) (g : TmG E k2 d2 n2 u) (m : Mk w [k1, k2] k) : TmG E k (max d1 d2 + 1) (n1 + n2 + 1) (.call w [t, u]) := by
  refine ⟨?_, ?_, ?_⟩
  · unfold Kd Kds Kds Kds
    exact ⟨_, ⟨k1, _, rfl, h.kind, k2, _, rfl, g.kind, rfl⟩, m⟩
  · rw [depth, depths, depths, depths]
    have := h.dep
    have := g.dep
    omega
  · rw [parts, partss, partss, partss]
    have := h.pts
    have := g.pts
    omega
theorem tg3 {E : KEnv} {w k k1 k2 k3 : Str} {d1 d2 d3 : Nat} {n1 n2 n3 : Int} {t u v : Tm} (h : TmG E k1 d1 n1 t) (g : TmG E k2 d2 n2 u) (l : TmG E k3 d3 n3 v) (m : Mk w [k1, k2, k3] k) : TmG E k (max d1 (max d2 d3) + 1) (n1 + n2 + n3 + 1) (.call w [t, u, v]) := by
  refine ⟨?_, ?_, ?_⟩
  · unfold Kd Kds Kds Kds Kds
    exact ⟨_, ⟨k1, _, rfl, h.kind, k2, _, rfl, g.kind, k3, _, rfl, l.kind, rfl⟩, m⟩
  · rw [depth, depths, depths, depths, depths]
    have := h.dep
    have := g.dep
    have := l.dep
    omega
  · rw [parts, partss, partss, partss, partss]
    have := h.pts
    have := g.pts
    have := l.pts
    omega
theorem mk_pick (k : Str) : Mk "pick" [("num" : Str), k, k] k := .inl ⟨rfl, rfl⟩
theorem mk_of {w : Str} {ks : List Str} {k : Str} (h : (w, ks, k) ∈ NEEDK) : Mk w ks k := .inr h
end TM
namespace K12
open PySem L2
open TM 
theorem seq_join {t rest : TS} {D : Ends} {σ : St} {H : Hp} (R0 : St -> Hp -> Prop) (key : ∀ σ' H', R0 σ' H' -> rest D σ' H') (k : ∀ F : St -> Hp -> Prop, (∀ σ' H', R0 σ' H' -> F σ' H') -> t { D with nx := F } σ H) : tSeq t rest D σ H := k (rest D) key
abbrev Vl := Int × Str × Str × Int
def VlIs (H : Hp) (e : Vl) (v : V) : Prop := ∃ p, v = .ref p /\ H p = some (.tup [.int e.1, .str e.2.1, .str e.2.2.1, .int e.2.2.2])
theorem VlIs.same {H H' : Hp} (s : SameT H H') {e : Vl} {v : V} (h : VlIs H e v) : VlIs H' e v := by
  obtain ⟨p, a, b⟩ := h
  exact ⟨p, a, s _ _ b⟩
theorem tm_call {H : Hp} {w : Str} {ts : List Tm} {a b : Addr} {vs : List V} (ha : H a = some (.tup [.str "call", .str w, .ref b])) (hb : H b = some (.tup vs)) (hl : vs.length <= 1000) (h : TmsIs H ts vs) : TmIs H (.call w ts) (.ref a) := by
  unfold TmIs
  exact ⟨a, b, vs, rfl, ha, hb, hl, h⟩
theorem tms1 {H : Hp} {t : Tm} {v : V} (h : TmIs H t v) : TmsIs H [t] [v] := by unfold TmsIs TmsIs; exact ⟨v, [], rfl, h, rfl⟩
theorem tms2 {H : Hp} {t u : Tm} {v x : V} (h : TmIs H t v) (g : TmIs H u x) : TmsIs H [t, u] [v, x] := by unfold TmsIs TmsIs TmsIs; exact ⟨v, _, rfl, h, x, _, rfl, g, rfl⟩
theorem tms3 {H : Hp} {t u s : Tm} {v x y : V} (h : TmIs H t v) (g : TmIs H u x) (k : TmIs H s y) : TmsIs H [t, u, s] [v, x, y] := by unfold TmsIs TmsIs TmsIs TmsIs; exact ⟨v, _, rfl, h, x, _, rfl, g, y, _, rfl, k, rfl⟩
theorem tm_mark {H : Hp} {p : Addr} (h : H p = some (.tup [.str "mark"])) : TmIs H .mark (.ref p) := by unfold TmIs; exact ⟨p, rfl, h⟩
theorem tm_row {H : Hp} {p : Addr} (h : H p = some (.tup [.str "row"])) : TmIs H .row (.ref p) := by unfold TmIs; exact ⟨p, rfl, h⟩
theorem tm_num {H : Hp} {p : Addr} {n : Int} (h : H p = some (.tup [.str "num", .int n])) : TmIs H (.num n) (.ref p) := by unfold TmIs; exact ⟨p, rfl, h⟩
theorem tm_text {H : Hp} {p : Addr} {z : Str} (h : H p = some (.tup [.str "text", .str z])) : TmIs H (.text z) (.ref p) := by unfold TmIs; exact ⟨p, rfl, h⟩
theorem tm_val {H : Hp} {p : Addr} {k : Int} {z : Str} (h : H p = some (.tup [.str "of", .int k, .str z])) : TmIs H (.val k z) (.ref p) := by unfold TmIs; exact ⟨p, rfl, h⟩
def spSeen : Sp := fun vs H Q _ => ∃ (E : KEnv) (kd : Str) (e : Vl) (v : V), vs = [.str kd, v] /\ VlIs H e v /\ kd ∈ kinds3 /\ e.2.2.1 ∈ kinds3 /\ E e.1 e.2.1 e.2.2.1 /\ ∀ t x H', Same H H' -> TmIs H' t x -> TmG E kd 3 4 t -> Q x H'
def spBase : Sp := fun vs H Q _ => ∃ (E : KEnv) (kd : Str) (c : Int), vs = [.str kd, .int c] /\ kd ∈ kinds3 /\ ∀ t x H', Same H H' -> TmIs H' t x -> TmG E kd 2 3 t -> Q x H'
theorem k3_not {kd : Str} (h : kd ∈ kinds3) (h1 : ¬ V.str kd = V.str "num") (h2 : ¬ V.str kd = V.str "text") : kd = "row" := by
  simp only [kinds3, List.mem_cons, List.mem_nil_iff, or_false] at h
  rcases h with rfl | rfl | rfl
  · exact absurd rfl h1
  · exact absurd rfl h2
  · rfl
section
variable {P : Program} {w : World} {K : PySem.W.Frag} {mg : Str -> Option Value} {base : Heap} {T : Adr}
theorem ok_seen (X : Tx K w mg T) : FnOk P w K mg base CX0 1 T.qseen T.d_qseen ["_law_kind", "_law_one"] spSeen := by
  refine X.F_qseen.okQ sc_qseen (fun vs H Q E h => ?_) (fun cdv A outer s H vs Q E hr h => ?_)
  · obtain ⟨_, _, _, _, rfl, _⟩ := h
    rfl
  obtain ⟨Ev, kd, ⟨k, n, kd2, sd⟩, v, rfl, ⟨p, rfl, hp⟩, mk1, mk2, hE, q⟩ := h
  have mk2 : kd2 ∈ kinds3 := mk2
  have hE : Ev k n kd2 := hE
  have hp : H p = some (.tup [.int k, .str n, .str kd2, .int sd]) := hp
  refine ⟨_, (qss_cons (qs_set (i := 2) sc_qseen.nd rfl (Or.inl rfl) (qe_tup (qaC qe_str (qaS (qe_ix ix_tup (qv 1) qe_int (fun _ _ => rfl)) (qaS (qe_ix ix_tup (qv 1) qe_int (fun _ _ => rfl)) qa_nil))))) (qss_cons (qs_if (qt_cmpR op_eq (qv 0) (qe_ix ix_tup (qv 1) qe_int (fun _ _ => rfl)) (nomark _)) (qss_one (qs_ret (qv 2))) qss_nil) (qss_cons (qs_if (qt_cmpR op_ne (qe_ix ix_tup (qv 1) qe_int (fun _ _ => rfl)) qe_str (nomark _)) (qss_one (qs_set (i := 2) sc_qseen.nd rfl (Or.inl rfl) (qe_tup (qaC qe_str (qaS (qe_ix ix_list (qe_lst (qaC qe_str (qaC qe_str qa_nil))) (qe_callTy call_int1 rfl X.z_int PyProof.Rows.boot_int (qaM (qe_cmpR op_eq (qe_ix ix_tup (qv 1) qe_int (fun _ _ => rfl)) qe_str (nomark _)) qa_nil)) (fun _ _ => rfl)) (qaT (qe_tup (qaN (qv 2) qa_nil)) qa_nil)))))) qss_nil) (qss_cons (qs_if (qt_cmpR op_eq (qv 0) qe_str (nomark _)) (qss_one (qs_ret (qv 2))) qss_nil) (qss_cons (qs_if (qt_cmpR op_eq (qv 0) qe_str (nomark _)) (qss_one (qs_ret (qe_tup (qaC qe_str (qaC qe_str (qaT (qe_tup (qaN (qv 2) qa_nil)) qa_nil)))))) qss_nil) (qss_one (qs_ret (qe_tup (qaC qe_str (qaC qe_str (qaT (qe_tup (qaT (qe_tup (qaC qe_str qa_nil)) (qaN (qv 2) qa_nil))) qa_nil))))))))))), ?_⟩
  refine ⟨_, rfl, p, _, 0, _, rfl, rfl, SqT.of hp, rfl, _, rfl, p, _, 1, _, rfl, rfl, SqT.of hp, rfl, (by show 3 <= sizeLine; decide), fun a1 h1 => ?_⟩
  have s1 := same_new h1 (.tup [.str "of", .int k, .str n])
  have hp1 := s1 _ _ hp
  have t1 := tm_val (upd_same (H := H) (a := a1) (o := .tup [.str "of", .int k, .str n]))
  generalize upd H a1 (.tup [.str "of", .int k, .str n]) = H1 at s1 hp1 t1 ⊢
  refine ⟨_, rfl, _, rfl, p, _, 2, .str kd2, rfl, rfl, SqT.of hp1, rfl, rfl, _, rfl, iteDd (fun h => ?_) (fun hn => ?_)⟩
  · have e : kd = kd2 := V.str.inj h
    exact ⟨_, rfl, q _ _ H1 s1 t1 (e ▸ (tg_val hE).mono (by decide) (by decide))⟩
  unfold tNext
  dsimp only
  refine seq_join (fun σ' H2 => ∃ t x, σ' = [some (.str kd), some (.ref p), some x] /\ Same H H2 /\ TmIs H2 t x /\ TmG Ev "num" 2 2 t) ?_ ?_
  · rintro σ' H2 ⟨t, x, rfl, s2, ht, d2⟩
    refine ⟨_, rfl, rfl, _, rfl, iteDd (fun e => ⟨_, rfl, q t x H2 s2 ht ((show kd = "num" from V.str.inj e) ▸ d2.mono (by decide) (by decide))⟩) (fun n1 => ?_)⟩
    refine ⟨_, rfl, rfl, _, rfl, iteDd (fun e2 => ?_) (fun n2 => ?_)⟩
    · refine ⟨_, rfl, (by show 1 <= sizeLine; decide), fun a3 h3 => ⟨(by show 3 <= sizeLine; decide), fun a4 h4 => ?_⟩⟩
      have s3 := same_new h3 (.tup [x])
      have s4 := same_new h4 (.tup [.str "call", .str "show", .ref a3])
      exact q _ _ _ (s2.trans (s3.trans s4)) (tm_call upd_same (s4 _ _ upd_same) (by show 1 <= 1000; decide) (tms1 (TmIs.same (sameT (s3.trans s4)) t ht))) ((show kd = "text" from V.str.inj e2) ▸ (tg1 d2 (mk_of (by decide))).mono (by decide) (by decide))
    · refine ⟨(by show 1 <= sizeLine; decide), fun a3 h3 => ⟨_, rfl, (by show 2 <= sizeLine; decide), fun a4 h4 => ⟨(by show 3 <= sizeLine; decide), fun a5 h5 => ?_⟩⟩⟩
      have s3 := same_new h3 (.tup [.str "row"])
      have s4 := same_new h4 (.tup [.ref a3, x])
      have s5 := same_new h5 (.tup [.str "call", .str "put", .ref a4])
      exact q _ _ _ (s2.trans (s3.trans (s4.trans s5))) (tm_call upd_same (s5 _ _ upd_same) (by show 2 <= 1000; decide) (tms2 (tm_row ((s4.trans s5) _ _ upd_same)) (TmIs.same (sameT (s3.trans (s4.trans s5))) t ht))) ((k3_not mk1 n1 n2) ▸ (tg2 tg_row d2 (mk_of (by decide))).mono (by decide) (by decide))
  · intro F hF
    refine ⟨_, rfl, p, _, 2, .str kd2, rfl, rfl, SqT.of hp1, rfl, rfl, _, rfl, iteNe (fun m1 => ?_) (fun e => hF _ _ ⟨_, _, rfl, s1, t1, (show kd2 = "num" from V.str.inj e) ▸ (tg_val hE).mono (by decide) (by decide)⟩)⟩
    refine ⟨(by show 2 <= sizeLine; decide), fun a2 h2 => ?_⟩
    have s2 := same_new h2 (.lst [.str "size", .str "many"])
    have hp2 := s2 _ _ hp1
    obtain ⟨dd, hdd, hmk⟩ : ∃ dd : Str, atI [V.str "size", V.str "many"] (if decide (V.str kd2 = V.str "row") = true then 1 else 0) = some (.str dd) /\ Mk dd [kd2] "num" := by
      by_cases h : V.str kd2 = V.str "row"
      · rw [decide_eq_true h]
        have h' : kd2 = "row" := V.str.inj h
        exact ⟨_, rfl, by rw [h']; exact mk_of (by decide)⟩
      · rw [decide_eq_false h]
        have h' : kd2 = "text" := by
          simp only [kinds3, List.mem_cons, List.mem_nil_iff, or_false] at mk2
          rcases mk2 with rfl | rfl | rfl
          · exact absurd rfl m1
          · rfl
          · exact absurd rfl h
        exact ⟨_, rfl, by rw [h']; exact mk_of (by decide)⟩
    refine ⟨_, rfl, p, _, 2, .str kd2, rfl, rfl, SqT.of hp2, rfl, rfl, .inr ⟨_, rfl, a2, _, _, .str dd, rfl, rfl, SqL.of upd_same, hdd, _, rfl, (by show 1 <= sizeLine; decide), fun a3 h3 => ⟨(by show 3 <= sizeLine; decide), fun a4 h4 => ?_⟩⟩⟩
    have s3 := same_new h3 (.tup [.ref a1])
    have s4 := same_new h4 (.tup [.str "call", .str dd, .ref a3])
    exact hF _ _ ⟨_, _, rfl, s1.trans (s2.trans (s3.trans s4)), tm_call upd_same (s4 _ _ upd_same) (by show 1 <= 1000; decide) (tms1 (TmIs.same (sameT (s2.trans (s3.trans s4))) _ t1)), (tg1 (tg_val hE) hmk).mono (by decide) (by decide)⟩
theorem ok_base (X : Tx K w mg T) : FnOk P w K mg base CX0 1 T.qbase T.d_qbase ["_law_kind", "_law_cell"] spBase := by
  refine X.F_qbase.okQ sc_qbase (fun vs H Q E h => ?_) (fun cdv A outer s H vs Q E hr h => ?_)
  · obtain ⟨_, _, _, rfl, _⟩ := h
    rfl
  obtain ⟨Ev, kd, c, rfl, mk1, q⟩ := h
  refine ⟨_, (qss_cons (qs_if (qt_cmpR op_eq (qv 0) qe_str (nomark _)) (qss_one (qs_ret (qe_ix ix_list (qe_lst (qaT (qe_tup (qaC qe_str (qaB (qe_op op_mod (qe_op op_fdiv (qv 1) qe_int) (qe_op op_pow qe_int qe_int)) qa_nil))) (qaT (qe_tup (qaC qe_str qa_nil)) (qaT (qe_tup (qaC qe_str (qaB (qe_op op_mod (qe_op op_fdiv (qv 1) qe_int) qe_int) qa_nil))) qa_nil)))) (qe_op op_mod (qv 1) qe_int) (fun _ _ => rfl)))) qss_nil) (qss_cons (qs_if (qt_cmpR op_eq (qv 0) qe_str (nomark _)) (qss_cons (qs_set (i := 2) sc_qbase.nd rfl (Or.inl rfl) (qe_tup (qaC qe_str (qaS (qe_ix ix_list (qe_lst (qaC qe_str (qaC qe_str (qaB (qe_op op_rep_str qe_str qe_int) (qaC qe_str qa_nil))))) (qe_op op_mod (qe_op op_fdiv (qv 1) qe_int) qe_int) (fun _ _ => rfl)) qa_nil)))) (qss_one (qs_ret (qe_ix ix_list (qe_lst (qaT (qe_tup (qaC qe_str (qaC qe_str (qaT (qe_tup (qaT (qe_tup (qaC qe_str qa_nil)) qa_nil)) qa_nil)))) (qaN (qv 2) qa_nil))) (qe_op op_mod (qv 1) qe_int) (fun _ _ => rfl))))) qss_nil) (qss_one (qs_ret (qe_ix ix_list (qe_lst (qaT (qe_tup (qaC qe_str qa_nil)) (qaT (qe_tup (qaC qe_str (qaC qe_str (qaT (qe_tup (qaT (qe_tup (qaC qe_str qa_nil)) (qaT (qe_tup (qaC qe_str qa_nil)) qa_nil))) qa_nil)))) qa_nil))) (qe_op op_mod (qv 1) qe_int) (fun _ _ => rfl)))))), ?_⟩
  refine ⟨_, rfl, rfl, _, rfl, iteDd (fun h1 => ?_) (fun n1 => ?_)⟩
  · have h1' := h1
    refine ⟨_, rfl, _, _, rfl, rfl, ⟨by decide, by decide⟩, _, _, rfl, rfl, ⟨by decide, by decide, by decide⟩, _, _, rfl, rfl, (by show (0 : Int) < 10 ^ Int.toNat 18; decide), (by show 2 <= sizeLine; decide), fun a1 h1 => ⟨(by show 1 <= sizeLine; decide), fun a2 h2 => ⟨_, rfl, _, _, rfl, rfl, ⟨by decide, by decide⟩, _, _, rfl, rfl, (by show (0 : Int) < 3; decide), (by show 2 <= sizeLine; decide), fun a3 h3 => ⟨(by show 3 <= sizeLine; decide), fun a4 h4 => ?_⟩⟩⟩⟩
    have s1 := same_new h1 (.tup [.str "num", .int (c / 3 % 10 ^ Int.toNat 18)])
    have s2 := same_new h2 (.tup [.str "mark"])
    have s3 := same_new h3 (.tup [.str "num", .int (c / 3 % 3)])
    have s4 := same_new h4 (.lst [.ref a1, .ref a2, .ref a3])
    have sA := s1.trans (s2.trans (s3.trans s4))
    have g1 := (s2.trans (s3.trans s4)) _ _ (upd_same (H := H) (a := a1) (o := .tup [.str "num", .int (c / 3 % 10 ^ Int.toNat 18)]))
    have hm : c % 3 = 0 \/ c % 3 = 1 \/ c % 3 = 2 := by omega
    rcases hm with e | e | e
    · exact ⟨_, rfl, _, _, rfl, rfl, (by show (0 : Int) < 3; decide), a4, _, _, .ref a1, rfl, rfl, SqL.of upd_same, by rw [e]; rfl, q _ _ _ sA (tm_num g1) ((show kd = "num" from V.str.inj h1') ▸ tg_num.mono (by decide) (by decide))⟩
    · exact ⟨_, rfl, _, _, rfl, rfl, (by show (0 : Int) < 3; decide), a4, _, _, .ref a2, rfl, rfl, SqL.of upd_same, by rw [e]; rfl, q _ _ _ sA (tm_mark ((s3.trans s4) _ _ upd_same)) ((show kd = "num" from V.str.inj h1') ▸ tg_mark.mono (by decide) (by decide))⟩
    · exact ⟨_, rfl, _, _, rfl, rfl, (by show (0 : Int) < 3; decide), a4, _, _, .ref a3, rfl, rfl, SqL.of upd_same, by rw [e]; rfl, q _ _ _ sA (tm_num (s4 _ _ upd_same)) ((show kd = "num" from V.str.inj h1') ▸ tg_num.mono (by decide) (by decide))⟩
  refine ⟨_, rfl, rfl, _, rfl, iteDd (fun h2 => ?_) (fun n2 => ?_)⟩
  · have h2' := h2
    refine ⟨_, _, rfl, rfl, (by decide +kernel), (by decide), (by decide), (by show 4 <= sizeLine; decide), fun a1 h1 => ?_⟩
    have s1 := same_new h1 (.lst [.str "", .str "ab3", .str (Txt.mul "z" 40), .str "0of"])
    obtain ⟨z, hz⟩ : ∃ z : Str, atI [V.str "", V.str "ab3", V.str (Txt.mul "z" 40), V.str "0of"] (c / 2 % 4) = some (.str z) := by
      have h4 : c / 2 % 4 = 0 \/ c / 2 % 4 = 1 \/ c / 2 % 4 = 2 \/ c / 2 % 4 = 3 := by omega
      rcases h4 with e | e | e | e <;> rw [e] <;> exact ⟨_, rfl⟩
    refine ⟨_, rfl, _, _, rfl, rfl, ⟨by decide, by decide⟩, _, _, rfl, rfl, (by show (0 : Int) < 4; decide), a1, _, _, .str z, rfl, rfl, SqL.of upd_same, hz, (by show 2 <= sizeLine; decide), fun a2 h2 => ?_⟩
    have s2 := same_new h2 (.tup [.str "text", .str z])
    refine ⟨(by show 1 <= sizeLine; decide), fun a3 h3 => ⟨(by show 1 <= sizeLine; decide), fun a4 h4 => ⟨(by show 3 <= sizeLine; decide), fun a5 h5 => ⟨_, rfl, (by show 2 <= sizeLine; decide), fun a6 h6 => ?_⟩⟩⟩⟩
    have s3 := same_new h3 (.tup [.str "mark"])
    have s4 := same_new h4 (.tup [.ref a3])
    have s5 := same_new h5 (.tup [.str "call", .str "show", .ref a4])
    have s6 := same_new h6 (.lst [.ref a5, .ref a2])
    have sB := s3.trans (s4.trans (s5.trans s6))
    have sA := s1.trans (s2.trans sB)
    have hm : c % 2 = 0 \/ c % 2 = 1 := by omega
    rcases hm with e | e
    · exact ⟨_, rfl, _, _, rfl, rfl, (by show (0 : Int) < 2; decide), a6, _, _, .ref a5, rfl, rfl, SqL.of upd_same, by rw [e]; rfl, q _ _ _ sA (tm_call (s6 _ _ upd_same) ((s5.trans s6) _ _ upd_same) (by show 1 <= 1000; decide) (tms1 (tm_mark ((s4.trans (s5.trans s6)) _ _ upd_same)))) ((show kd = "text" from V.str.inj h2') ▸ (tg1 tg_mark (mk_of (by decide))).mono (by decide) (by decide))⟩
    · exact ⟨_, rfl, _, _, rfl, rfl, (by show (0 : Int) < 2; decide), a6, _, _, .ref a2, rfl, rfl, SqL.of upd_same, by rw [e]; rfl, q _ _ _ sA (tm_text (sB _ _ upd_same)) ((show kd = "text" from V.str.inj h2') ▸ tg_text.mono (by decide) (by decide))⟩
  · refine ⟨(by show 1 <= sizeLine; decide), fun a1 h1 => ⟨(by show 1 <= sizeLine; decide), fun a2 h2 => ⟨(by show 1 <= sizeLine; decide), fun a3 h3 => ⟨(by show 2 <= sizeLine; decide), fun a4 h4 => ⟨(by show 3 <= sizeLine; decide), fun a5 h5 => ⟨(by show 2 <= sizeLine; decide), fun a6 h6 => ?_⟩⟩⟩⟩⟩⟩
    have s1 := same_new h1 (.tup [.str "row"])
    have s2 := same_new h2 (.tup [.str "row"])
    have s3 := same_new h3 (.tup [.str "mark"])
    have s4 := same_new h4 (.tup [.ref a2, .ref a3])
    have s5 := same_new h5 (.tup [.str "call", .str "put", .ref a4])
    have s6 := same_new h6 (.lst [.ref a1, .ref a5])
    have sA := s1.trans (s2.trans (s3.trans (s4.trans (s5.trans s6))))
    have hm : c % 2 = 0 \/ c % 2 = 1 := by omega
    rcases hm with e | e
    · exact ⟨_, rfl, _, _, rfl, rfl, (by show (0 : Int) < 2; decide), a6, _, _, .ref a1, rfl, rfl, SqL.of upd_same, by rw [e]; rfl, q _ _ _ sA (tm_row ((s2.trans (s3.trans (s4.trans (s5.trans s6)))) _ _ upd_same)) ((k3_not mk1 n1 n2) ▸ tg_row.mono (by decide) (by decide))⟩
    · exact ⟨_, rfl, _, _, rfl, rfl, (by show (0 : Int) < 2; decide), a6, _, _, .ref a5, rfl, rfl, SqL.of upd_same, by rw [e]; rfl, q _ _ _ sA (tm_call (s6 _ _ upd_same) ((s5.trans s6) _ _ upd_same) (by show 2 <= 1000; decide) (tms2 (tm_row ((s3.trans (s4.trans (s5.trans s6))) _ _ upd_same)) (tm_mark ((s4.trans (s5.trans s6)) _ _ upd_same)))) ((k3_not mk1 n1 n2) ▸ (tg2 tg_row tg_mark (mk_of (by decide))).mono (by decide) (by decide))⟩
end
end K12
namespace L2
open PySem PySem.Spec PyProof.Rows
theorem qps_cons {X : Cx} {pos : Pos} {k v : Expr} {ks : List (Option Expr)} {vs : List Expr} {tk tv : TE} {trs : List (TE × TE)} (hk : QE X k tk) (hv : QE X v tv) (hr : PPs X pos ks vs trs) : PPs X pos (some k :: ks) (v :: vs) ((tk, tv) :: trs) := pps_cons hk.h hv.h hr
theorem qe_disp {X : Cx} {pos : Pos} {keys : List (Option Expr)} {values : List Expr} {trs : List (TE × TE)} (h : PPs X pos keys values trs) (hall : keys.all (·.isSome) = true := by rfl) (hl : keys.length = values.length := by rfl) (h0 : keys ≠ [] := by simp) (h15 : keys.length <= 15 := by decide) : QE X (.Dict keys values pos) (tDisp trs) := ⟨pe_disp h hall hl h0 h15⟩
end L2
namespace K12
open PySem L2
open TM 
def spTerm : Sp := fun vs H Q _ => ∃ (E : KEnv) (kd : Str) (l : Addr) (es : List Vl) (us : List V) (c : Int), vs = [.str kd, .ref l, .int c] /\ kd ∈ kinds3 /\ H l = some (.lst us) /\ L2R (VlIs H) es us /\ us.length <= 2 /\ (∀ e ∈ es, e.2.2.1 ∈ kinds3 /\ E e.1 e.2.1 e.2.2.1) /\ ∀ t x H', Same H H' -> TmIs H' t x -> TmG E kd 6 30 t -> Q x H'
theorem deed_of {kd : Str} (h : kd ∈ kinds3) (d : Str) (hd : d ∈ (["add", "mul", "sub", "less"] : List Str)) : ∃ dd : Str, valV (mergeK [] [((.inr "num" : Key), V.str d), (.inr "text", .str "glue"), (.inr "row", .str "link")]) (.inr kd) = some (.str dd) /\ Mk dd [kd, kd] kd := by
  simp only [kinds3, List.mem_cons, List.mem_nil_iff, or_false] at h
  rcases h with rfl | rfl | rfl
  · refine ⟨d, rfl, mk_of ?_⟩
    simp only [List.mem_cons, List.mem_nil_iff, or_false] at hd
    rcases hd with rfl | rfl | rfl | rfl <;> decide
  · exact ⟨_, rfl, mk_of (by decide)⟩
  · exact ⟨_, rfl, mk_of (by decide)⟩
section
variable {P : Program} {w : World} {K : PySem.W.Frag} {mg : Str -> Option Value} {base : Heap} {T : Adr}
theorem ok_term (X : Tx K w mg T) : FnOk P w K mg base CX0 2 T.qterm T.d_qterm ["_law_kind", "_law_some", "_law_cell"] spTerm := by
  have G_qbase := ok_base (P := P) (w := w) (base := base) X
  have G_qseen := ok_seen (P := P) (w := w) (base := base) X
  refine X.F_qterm.okQ sc_qterm (fun vs H Q E h => ?_) (fun cdv A outer s H vs Q E hr h => ?_)
  · obtain ⟨_, _, _, _, _, _, rfl, _⟩ := h
    rfl
  obtain ⟨Ev, kd, l, es, us, c, rfl, hk, hl, hus, lus, hEv, q⟩ := h
  refine ⟨_, (qss_cons (qs_set (i := 3) sc_qterm.nd rfl (Or.inl rfl) (qe_call G_qbase hr rfl X.m_qbase X.F_qbase.kp X.b_qbase .nil pass0 (qaN (qv 0) (qaN (qv 2) qa_nil)))) (qss_cons (qs_for PassesOwn.never rfl (qi_list (qv 1)) (qg_name (i := 4) sc_qterm.nd rfl (Or.inl rfl)) (qss_cons (qs_set (i := 2) sc_qterm.nd rfl (Or.inl rfl) (qe_op op_fdiv (qv 2) qe_int)) (qss_cons (qs_set (i := 5) sc_qterm.nd rfl (Or.inl rfl) (qe_lst (qaN (qv 3) (qaK (qe_call G_qseen hr rfl X.m_qseen X.F_qseen.kp X.b_qseen .nil pass0 (qaN (qv 0) (qaN (qv 4) qa_nil))) qa_nil)))) (qss_cons (qs_set (i := 6) sc_qterm.nd rfl (Or.inl rfl) (qe_dget (hu_of hr) (qe_disp (qps_cons qe_str (qe_ix ix_list (qe_lst (qaC qe_str (qaC qe_str (qaC qe_str (qaC qe_str qa_nil))))) (qe_op op_mod (qv 2) qe_int) (fun _ _ => rfl)) (qps_cons qe_str qe_str (qps_cons qe_str qe_str pps_nil)))) (qv 0))) (qss_cons (qs_set (i := 3) sc_qterm.nd rfl (Or.inl rfl) (qe_tup (qaC qe_str (qaN (qv 6) (qaT (qe_tup (qaS (qe_ix ix_list (qv 5) (qe_op op_mod (qe_op op_fdiv (qv 2) qe_int) qe_int) (fun _ _ => rfl)) (qaS (qe_ix ix_list (qv 5) (qe_op op_sub qe_int (qe_op op_mod (qe_op op_fdiv (qv 2) qe_int) qe_int)) (fun _ _ => rfl)) qa_nil))) qa_nil))))) (qss_one (qs_if (qt_cmpR op_eq (qe_op op_mod (qe_op op_fdiv (qv 2) qe_int) qe_int) qe_int (nomark _)) (qss_one (qs_set (i := 3) sc_qterm.nd rfl (Or.inl rfl) (qe_tup (qaC qe_str (qaC qe_str (qaB (qe_op op_catA (qe_tup (qaT (qe_tup (qaC qe_str qa_nil)) qa_nil)) (qe_ix ix_tup (qv 3) qe_int (fun _ _ => rfl))) qa_nil)))))) qss_nil))))))) (qss_cons (qs_if (qt_cmpR op_eq (qe_op op_mod (qe_op op_fdiv (qv 2) qe_int) qe_int) qe_int (nomark _)) (qss_one (qs_set (i := 3) sc_qterm.nd rfl (Or.inl rfl) (qe_tup (qaC qe_str (qaC qe_str (qaT (qe_tup (qaT (qe_tup (qaC qe_str qa_nil)) (qaN (qv 3) (qaK (qe_call G_qbase hr rfl X.m_qbase X.F_qbase.kp X.b_qbase .nil pass0 (qaN (qv 0) (qaB (qe_op op_fdiv (qv 2) qe_int) qa_nil))) qa_nil)))) qa_nil)))))) qss_nil) (qss_one (qs_ret (qv 3)))))), ?_⟩
  refine ⟨_, rfl, _, rfl, Ev, kd, c, rfl, hk, fun t0 x0 H0 s0 ht0 d0 => ?_⟩
  refine ⟨_, rfl, l, rfl, ⟨_, SqL.of (s0 _ _ hl)⟩, for_list (K := K) (a := l) (xs := us) (fun i σ H' => Same H H' /\ ∃ (t : Tm) (x : V) (c' : Int) (y4 y5 y6 : Option V), σ = [some (.str kd), some (.ref l), some (.int c'), some x, y4, y5, y6] /\ TmIs H' t x /\ TmG Ev kd (3 + i) (3 + 6 * (i : Int)) t)
    ⟨s0, t0, x0, c, none, none, none, rfl, ht0, d0.mono (by omega) (by omega)⟩ (fun i σ H' _ ⟨sm, _⟩ => SqL.of (sm _ _ hl)) ?_ ?_⟩
  · rintro i v σ H' hv ⟨sm, t, x, c', y4, y5, y6, rfl, ht, dt⟩
    obtain ⟨e, he, hve⟩ := hus.get hv
    refine ⟨_, rfl, _, _, rfl, rfl, ⟨by decide, by decide⟩, ?_⟩
    dsimp only
    generalize c' / 7 = c2
    have hem := hEv e (List.mem_of_getElem? he)
    refine ⟨_, rfl, _, rfl, _, rfl, Ev, kd, e, v, rfl, VlIs.same (sameT sm) hve, hk, hem.1, hem.2, fun t2 x2 H2 s2 ht2 d2 => ⟨(by show 2 <= sizeLine; decide), fun a1 h1 => ?_⟩⟩
    have s3 := same_new h1 (.lst [x, x2])
    have hpr := upd_same (H := H2) (a := a1) (o := .lst [x, x2])
    have tA := TmIs.same (sameT (s2.trans s3)) t ht
    have tB := TmIs.same (sameT s3) t2 ht2
    have sm3 := sm.trans (s2.trans s3)
    generalize upd H2 a1 (.lst [x, x2]) = H3 at s3 hpr tA tB sm3 ⊢
    intro dp hdp
    have s4 := same_new hdp (.dK [])
    refine ⟨(by show 4 <= sizeLine; decide), fun a2 h2 => ?_⟩
    have s5 := same_new h2 (.lst [.str "add", .str "mul", .str "sub", .str "less"])
    obtain ⟨dd, hdd, ddm⟩ : ∃ dd : Str, atI [V.str "add", V.str "mul", V.str "sub", V.str "less"] (c2 % 4) = some (.str dd) /\ dd ∈ (["add", "mul", "sub", "less"] : List Str) := by
      have h4 : c2 % 4 = 0 \/ c2 % 4 = 1 \/ c2 % 4 = 2 \/ c2 % 4 = 3 := by omega
      rcases h4 with e | e | e | e <;> rw [e] <;> exact ⟨_, rfl, by decide⟩
    refine ⟨_, rfl, _, _, rfl, rfl, (by show (0 : Int) < 4; decide), a2, _, _, .str dd, rfl, rfl, SqL.of upd_same, hdd, s5 _ _ upd_same, [(.inr "num", .str dd), (.inr "text", .str "glue"), (.inr "row", .str "link")], rfl, (by show 3 <= 15; decide), ?_⟩
    obtain ⟨de, hde, hmk⟩ := deed_of hk dd ddm
    have ndp : ∀ o, o ≠ HO.dK [] -> True := fun _ _ => trivial
    have s6 : Same H3 (upd (upd (upd H3 dp (.dK [])) a2 (.lst [.str "add", .str "mul", .str "sub", .str "less"])) dp (.dK (mergeK [] [(.inr "num", .str dd), (.inr "text", .str "glue"), (.inr "row", .str "link")]))) := same_upd hdp (s4.trans s5)
    refine ⟨_, rfl, dp, .str de, rfl, by have := DGet.k (k := .inr kd) (upd_same (H := upd (upd H3 dp (.dK [])) a2 (.lst [.str "add", .str "mul", .str "sub", .str "less"])) (a := dp) (o := .dK (mergeK [] [(.inr "num", .str dd), (.inr "text", .str "glue"), (.inr "row", .str "link")]))); rw [hde] at this; exact this, ?_⟩
    have hpr6 := s6 _ _ hpr
    have tA6 := TmIs.same (sameT s6) t tA
    have tB6 := TmIs.same (sameT s6) t2 tB
    have sm6 := sm3.trans s6
    generalize upd (upd (upd H3 dp (.dK [])) a2 (.lst [.str "add", .str "mul", .str "sub", .str "less"])) dp (.dK (mergeK [] [(.inr "num", .str dd), (.inr "text", .str "glue"), (.inr "row", .str "link")])) = H6 at s6 hpr6 tA6 tB6 sm6 ⊢
    obtain ⟨u1, u2, v1, v2, m1, m2, n1, n2, hi1, hi2, g1, g2, du1, du2, dmx, dnn⟩ : ∃ (u1 u2 : Tm) (v1 v2 : V) (m1 m2 : Nat) (n1 n2 : Int), atI [x, x2] (c2 / 4 % 2) = some v1 /\ atI [x, x2] (1 - c2 / 4 % 2) = some v2 /\ TmIs H6 u1 v1 /\ TmIs H6 u2 v2 /\ TmG Ev kd m1 n1 u1 /\ TmG Ev kd m2 n2 u2 /\ max m1 m2 = max (3 + i) 3 /\ n1 + n2 = (3 + 6 * (i : Int)) + 4 := by
      have h2 : c2 / 4 % 2 = 0 \/ c2 / 4 % 2 = 1 := by omega
      rcases h2 with e | e <;> rw [e]
      · exact ⟨t, t2, x, x2, _, _, _, _, rfl, rfl, tA6, tB6, dt, d2, rfl, rfl⟩
      · exact ⟨t2, t, x2, x, _, _, _, _, rfl, rfl, tB6, tA6, d2, dt, Nat.max_comm _ _, by omega⟩
    refine ⟨_, rfl, _, rfl, _, rfl, _, _, rfl, rfl, ⟨by decide, by decide⟩, _, _, rfl, rfl, (by show (0 : Int) < 2; decide), a1, _, _, v1, rfl, rfl, SqL.of hpr6, hi1, _, rfl, _, rfl, _, _, rfl, rfl, ⟨by decide, by decide⟩, _, _, rfl, rfl, (by show (0 : Int) < 2; decide), _, _, rfl, rfl, a1, _, _, v2, rfl, rfl, SqL.of hpr6, hi2, (by show 2 <= sizeLine; decide), fun b1 hb1 => ⟨(by show 3 <= sizeLine; decide), fun b2 hb2 => ?_⟩⟩
    have s7 := same_new hb1 (.tup [v1, v2])
    have s8 := same_new hb2 (.tup [.str "call", .str de, .ref b1])
    have s78 := s7.trans s8
    have hb1' := s8 _ _ (upd_same (H := H6) (a := b1) (o := .tup [v1, v2]))
    have hb2' := upd_same (H := upd H6 b1 (.tup [v1, v2])) (a := b2) (o := .tup [.str "call", .str de, .ref b1])
    have g1' := TmIs.same (sameT s78) u1 g1
    have g2' := TmIs.same (sameT s78) u2 g2
    generalize upd (upd H6 b1 (.tup [v1, v2])) b2 (.tup [.str "call", .str de, .ref b1]) = H8 at s78 hb1' hb2' g1' g2' ⊢
    refine ⟨_, rfl, _, _, rfl, rfl, ⟨by decide, by decide⟩, _, _, rfl, rfl, (by show (0 : Int) < 3; decide), rfl, _, rfl, iteDd (fun _ => ?_) (fun _ => ?_)⟩
    · refine ⟨(by show 1 <= sizeLine; decide), fun m1 hm1 => ⟨(by show 1 <= sizeLine; decide), fun m2 hm2 => ?_⟩⟩
      have s9 := same_new hm1 (.tup [.str "mark"])
      have s10 := same_new hm2 (.tup [.ref m1])
      refine ⟨_, rfl, b2, _, 2, _, rfl, rfl, SqT.of ((s9.trans s10) _ _ hb2'), rfl, m2, b1, [.ref m1], [v1, v2], rfl, rfl, upd_same, (s9.trans s10) _ _ hb1', fits2 (by show 1 + 2 <= 100000; decide), fun m3 H11 s11 hm3 => ⟨(by show 3 <= sizeLine; decide), fun m4 hm4 => ?_⟩⟩
      have s12 := same_new hm4 (.tup [.str "call", .str "pick", .ref m3])
      have sB := s11.trans s12
      have sC := s9.trans (s10.trans sB)
      refine ⟨sm6.trans (s78.trans sC), .call "pick" [.mark, u1, u2], _, _, _, _, _, rfl, tm_call upd_same (s12 _ _ hm3) (by show 3 <= 1000; decide) (tms3 (tm_mark ((s10.trans sB) _ _ upd_same)) (TmIs.same (sameT sC) u1 g1') (TmIs.same (sameT sC) u2 g2')), ?_⟩
      exact (tg3 tg_mark du1 du2 (mk_pick kd)).mono (by omega) (by omega)
    · exact ⟨sm6.trans s78, .call de [u1, u2], _, _, _, _, _, rfl, tm_call hb2' hb1' (by show 2 <= 1000; decide) (tms2 g1' g2'), (tg2 du1 du2 hmk).mono (by omega) (by omega)⟩
  · rintro σ H' ⟨sm, t, x, c', y4, y5, y6, rfl, ht, dt⟩
    refine ⟨_, rfl, _, _, rfl, rfl, ⟨by decide, by decide⟩, _, _, rfl, rfl, (by show (0 : Int) < 4; decide), rfl, _, rfl, iteDd (fun _ => ?_) (fun _ => ⟨_, rfl, q t x H' sm ht (dt.mono (by omega) (by omega))⟩)⟩
    refine ⟨(by show 1 <= sizeLine; decide), fun m1 hm1 => ?_⟩
    have s1 := same_new hm1 (.tup [.str "mark"])
    refine ⟨_, rfl, _, rfl, _, rfl, _, _, rfl, rfl, ⟨by decide, by decide⟩, Ev, kd, _, rfl, hk, fun t2 x2 H2 s2 ht2 d2 => ⟨(by show 3 <= sizeLine; decide), fun m2 hm2 => ⟨(by show 3 <= sizeLine; decide), fun m3 hm3 => ?_⟩⟩⟩
    have s3 := same_new hm2 (.tup [.ref m1, x, x2])
    have s4 := same_new hm3 (.tup [.str "call", .str "pick", .ref m2])
    have sA := s1.trans (s2.trans (s3.trans s4))
    refine ⟨_, rfl, q (.call "pick" [.mark, t, t2]) _ _ (sm.trans sA) (tm_call upd_same (s4 _ _ upd_same) (by show 3 <= 1000; decide) (tms3 (tm_mark ((s2.trans (s3.trans s4)) _ _ upd_same)) (TmIs.same (sameT sA) t ht) (TmIs.same (sameT (s3.trans s4)) t2 ht2))) ?_⟩
    exact (tg3 tg_mark dt d2 (mk_pick kd)).mono (by omega) (by omega)
end
end K12
namespace K12
open PySem L2
open TM 
def Kp (S : List Addr) (H H' : Hp) : Prop := ∀ b o, b ∉ S -> H b = some o -> H' b = some o
theorem Kp.refl (S : List Addr) (H : Hp) : Kp S H H := fun _ _ _ h => h
theorem Kp.trans {S : List Addr} {H H1 H2 : Hp} (a : Kp S H H1) (b : Kp S H1 H2) : Kp S H H2 := fun c o n h => b c o n (a c o n h)
theorem Kp.same {S : List Addr} {H H1 H2 : Hp} (a : Kp S H H1) (b : Same H1 H2) : Kp S H H2 := fun c o n h => b c o (a c o n h)
theorem Kp.upd {S : List Addr} {H H1 : Hp} {a : Addr} {o : HO} (h : Kp S H H1) (m : a ∈ S) : Kp S H (upd H1 a o) := fun c u n e => by
  have ne : c ≠ a := fun z => n (by rw [z]; exact m)
  rw [upd_ne ne]
  exact h c u n e
theorem Kp.mono {S S' : List Addr} {H H' : Hp} (h : Kp S H H') (m : ∀ a ∈ S, a ∈ S') : Kp S' H H' := fun c o n e => h c o (fun z => n (m c z)) e
theorem Kp.T {S : List Addr} {H H' : Hp} (h : Kp S H H') (m : ∀ a ∈ S, ∃ xs, H a = some (.lst xs)) : SameT H H' := fun b xs e => h b _ (fun z => by
  obtain ⟨ys, q⟩ := m b z
  rw [q] at e
  cases e) e
theorem Kp.free {S : List Addr} {H H' : Hp} (h : Kp S H H') {a : Addr} (hn : H' a = none) (m : a ∉ S) : H a = none := by
  cases e : H a with
  | none => rfl
  | some o => rw [h a o m e] at hn; cases hn
theorem kind_at {m : Int} (h0 : -1 <= m) (h1 : m <= 3) : ∃ kd : Str, atI [V.str "num", V.str "text", V.str "row", V.str "num"] m = some (.str kd) /\ kd ∈ kinds3 := by
  have : m = -1 \/ m = 0 \/ m = 1 \/ m = 2 \/ m = 3 := by omega
  rcases this with rfl | rfl | rfl | rfl | rfl
  · exact ⟨"num", rfl, by decide⟩
  · exact ⟨"num", rfl, by decide⟩
  · exact ⟨"text", rfl, by decide⟩
  · exact ⟨"row", rfl, by decide⟩
  · exact ⟨"num", rfl, by decide⟩
structure SgG (s : Sg) : Prop where
  ok : ∀ p ∈ s.dn ++ s.up, PrOk p
  nd : ((s.dn ++ s.up).map Prod.fst).Nodup
  ld : s.dn.length <= 2
  lu : s.up.length <= 2
  tx : TxOk s.nm
structure SgsG (sg : List Sg) : Prop where
  nm : ∀ s ∈ sg, NmOk s.nm
  g : ∀ s ∈ sg, SgG s
  nd : (sg.map Sg.nm).Nodup
  l1 : 1 <= sg.length
  l6 : sg.length <= 6
  u0 : ∀ s, sg[0]? = some s -> 1 <= s.up.length
def spSigns : Sp := fun vs H Q _ => ∃ (d : Addr) (cs : List Int) (w0 : Int), vs = [.ref d, .int w0] /\ H d = some (.lst (cs.map V.int)) /\ 20 <= cs.length /\ cs.length <= 90 /\
  ∀ (a : Addr) (us : List V) (sg : List Sg) (cs' : List Int) (H' : Hp), Kp [d] H H' -> H' d = some (.lst (cs'.map V.int)) -> cs.length <= cs'.length + 8 -> cs'.length <= 90 -> H' a = some (.tup us) -> L2R (SgIs H') sg us -> SgsG sg -> Q (.ref a) H'
theorem pairs_nd {c : Int} {dn up : List (Str × Str)} (h1 : ∀ (j : Nat) p, dn[j]? = some p -> p.1 = wrd c j) (h2 : ∀ (j : Nat) p, up[j]? = some p -> p.1 = wrd c (2 + (j : Int))) (l1 : dn.length <= 2) (l2 : up.length <= 2) : ((dn ++ up).map Prod.fst).Nodup := by
  have key : ∀ j x, ((dn ++ up).map Prod.fst)[j]? = some x -> ∃ m : Int, x = wrd c m /\ 0 <= m /\ m < 12 /\ (if j < dn.length then m = j else m = 2 + ((j - dn.length : Nat) : Int)) /\ j < dn.length + up.length := fun j x hx => by
    rw [List.getElem?_map] at hx
    cases e : (dn ++ up)[j]? with
    | none => rw [e] at hx; cases hx
    | some p =>
      rw [e] at hx
      have hx : x = p.1 := (Option.some.inj hx).symm
      have hj := lt_of_some e
      rw [List.length_append] at hj
      by_cases hlt : j < dn.length
      · rw [List.getElem?_append_left hlt] at e
        exact ⟨j, by rw [hx, h1 j p e], by omega, by omega, by rw [if_pos hlt], hj⟩
      · rw [List.getElem?_append_right (by omega)] at e
        exact ⟨2 + ((j - dn.length : Nat) : Int), by rw [hx, h2 _ p e], by omega, by omega, by rw [if_neg hlt], hj⟩
  refine List.pairwise_iff_getElem.mpr fun i j hi hj hlt he => ?_
  obtain ⟨m1, e1, a1, b1, c1, d1⟩ := key i _ (List.getElem?_eq_getElem hi)
  obtain ⟨m2, e2, a2, b2, c2, d2⟩ := key j _ (List.getElem?_eq_getElem hj)
  rw [e1, e2] at he
  have := wrd_inj a1 b1 a2 b2 he
  split at c1 <;> split at c2 <;> omega
theorem names_nd {c : Int} {sg : List Sg} (h : ∀ (j : Nat) s, sg[j]? = some s -> s.nm = wrd c j) (l : sg.length <= 12) : (sg.map Sg.nm).Nodup := by
  refine List.pairwise_iff_getElem.mpr fun i j hi hj hlt he => ?_
  rw [List.length_map] at hi hj
  rw [List.getElem_map, List.getElem_map, h i _ (List.getElem?_eq_getElem hi), h j _ (List.getElem?_eq_getElem hj)] at he
  have := wrd_inj (by omega) (by omega) (by omega) (by omega) he
  omega
theorem snoc_of {α : Type} {l : List α} (h : 0 < l.length) : ∃ a x, l = a ++ [x] := by
  cases e : l.reverse with
  | nil => rw [List.reverse_eq_nil_iff.mp e] at h; exact absurd h (by simp)
  | cons x r => exact ⟨r.reverse, x, by rw [<- List.reverse_reverse l, e, List.reverse_cons]⟩
def PrsI (near off : Int) (D : Addr) (H0 : Hp) (i : Nat) (acc : List V) (H' : Hp) : Prop := ∃ prs : List (Str × Str), prs.length = i /\ (∀ (j : Nat) p, prs[j]? = some p -> p.1 = wrd near (off + (j : Int)) /\ p.2 ∈ kinds3) /\ L2R (PrIs H') prs acc /\ Same H0 H' /\ H' D = some (.lst acc)
theorem PrsI.same {near off : Int} {D : Addr} {H0 H' H2 : Hp} {i : Nat} {acc : List V} (h : PrsI near off D H0 i acc H') (s : Same H' H2) : PrsI near off D H0 i acc H2 := by
  obtain ⟨prs, l, e, r, sm, d⟩ := h
  exact ⟨prs, l, e, r.imp fun _ _ h => PrIs.same (sameT s) h, sm.trans s, s _ _ d⟩
theorem PrsI.step {near off : Int} {D : Addr} {H0 H' : Hp} {i : Nat} {acc : List V} {kd : Str} {t : Addr} (h : PrsI near off D H0 i acc H') (hk : kd ∈ kinds3) (ht : H' t = none) (hD : H0 D = none) : PrsI near off D H0 (i + 1) (acc ++ [.ref t]) (upd (upd H' t (.tup [.str (wrd near (off + (i : Int))), .str kd])) D (.lst (acc ++ [.ref t]))) := by
  obtain ⟨prs, l, e, r, s, d⟩ := h
  have s1 := same_new ht (.tup [.str (wrd near (off + (i : Int))), .str kd])
  have d1 := s1 _ _ d
  have nt : t ≠ D := fun z => by rw [z, d] at ht; cases ht
  refine ⟨prs ++ [(wrd near (off + (i : Int)), kd)], by rw [List.length_append, l]; rfl, fun j p hp => ?_, ?_, same_upd hD (s.trans s1), upd_same⟩
  · by_cases hj : j < prs.length
    · rw [List.getElem?_append_left hj] at hp
      exact e j p hp
    · rw [List.getElem?_append_right (by omega)] at hp
      have hj0 : j - prs.length = 0 := by
        rcases Nat.eq_zero_or_pos (j - prs.length) with h | h
        · exact h
        · rw [List.getElem?_eq_none (by simp; omega)] at hp; cases hp
      rw [hj0] at hp
      have : j = i := by omega
      subst this
      cases hp
      exact ⟨rfl, hk⟩
  · have tD : SameT (upd H' t (.tup [.str (wrd near (off + (i : Int))), .str kd])) (upd (upd H' t (.tup [.str (wrd near (off + (i : Int))), .str kd])) D (.lst (acc ++ [.ref t]))) := sameT_lst d1
    exact (r.imp fun _ _ h => PrIs.same ((sameT s1).trans tD) h).snoc ⟨t, rfl, tD _ _ upd_same⟩
section
variable {P : Program} {w : World} {K : PySem.W.Frag} {mg : Str -> Option Value} {base : Heap} {T : Adr}
theorem ok_signs (X : Tx K w mg T) : FnOk P w K mg base CX0 2 T.qsigns T.d_qsigns ["_law_deck_here", "_law_word_here"] spSigns := by
  have G_qword := ok_word (P := P) (w := w) (base := base) X
  refine X.F_qsigns.okQ sc_qsigns (fun vs H Q E h => ?_) (fun cdv A outer s H vs Q E hr h => ?_)
  · obtain ⟨_, _, _, rfl, _⟩ := h
    rfl
  obtain ⟨d, cs, w0, rfl, hd, l20, l90, q⟩ := h
  refine ⟨_, (qss_cons (qs_set (i := 2) sc_qsigns.nd rfl (Or.inl rfl) (qe_bm0 PySem.F.plainAttrs_list PySem.F.slot_list_pop PySem.F.type_list_pop mt_pop (qv 0))) (qss_cons (qs_set (i := 3) sc_qsigns.nd rfl (Or.inr rfl) (qe_lst (qaC qe_str (qaC qe_str (qaC qe_str (qaC qe_str qa_nil)))))) (qss_cons (qs_set (i := 4) sc_qsigns.nd rfl (Or.inl rfl) (qe_lst qa_nil)) (qss_cons (qs_for PassesOwn.never rfl (qi_range1 rfl X.z_range (qaS (qe_ix ix_list (qe_lst (qaC qe_int (qaC qe_int (qaC qe_int (qaC qe_int (qaC qe_int (qaC qe_int (qaC qe_int (qaC qe_int qa_nil))))))))) (qe_op op_mod (qe_bm0 PySem.F.plainAttrs_list PySem.F.slot_list_pop PySem.F.type_list_pop mt_pop (qv 0)) qe_int) (fun _ _ => rfl)) qa_nil)) (qg_name (i := 5) sc_qsigns.nd rfl (Or.inl rfl)) (qss_cons (qs_set (i := 6) sc_qsigns.nd rfl (Or.inr rfl) (qe_bm0 PySem.F.plainAttrs_list PySem.F.slot_list_pop PySem.F.type_list_pop mt_pop (qv 0))) (qss_cons (qs_set (i := 7) sc_qsigns.nd rfl (Or.inr rfl) (qe_ix ix_list (qe_lst (qaN (qv 6) (qaN (qv 2) (qaN (qv 1) qa_nil)))) (qe_op op_mod (qv 2) qe_int) (fun _ _ => rfl))) (qss_cons (qs_setC (ys := ["_law_kinds", "_law_cell", "_law_near"]) (js := [3, 6, 7]) rfl rfl (qi_range1 rfl X.z_range (qaB (qe_op op_mod (qv 6) qe_int) qa_nil)) (fun _ _ _ _ _ => qif_nil) (fun _ _ _ _ _ => (qe_tup (qaK (qe_call G_qword hr rfl X.m_qword X.F_qword.kp X.b_qword .nil pass0 (qaN (qv 3) (qaN (qv 0) qa_nil))) (qaS (qe_ix (ix_listC (K := K) rfl) (qv 1) (qe_op op_sub (qe_op op_mod (qe_op op_fdiv (qv 2) qe_int) qe_int) (qv 0)) (fun _ _ => rfl)) qa_nil)))) (qg_name (i := 8) sc_qsigns.nd rfl (Or.inl rfl)) rfl) (qss_cons (qs_set (i := 9) sc_qsigns.nd rfl (Or.inl rfl) (qe_callB (call_max2 rfl) rfl X.z_max PyProof.Rows.boot_max (qaK (qe_callTy call_int1 rfl X.z_int PyProof.Rows.boot_int (qaM (qe_cmpR op_eq (qv 5) qe_int (nomark _)) qa_nil)) (qaS (qe_ix ix_list (qe_lst (qaC qe_int (qaC qe_int (qaC qe_int (qaC qe_int (qaC qe_int qa_nil)))))) (qe_op op_mod (qe_op op_fdiv (qv 6) qe_int) qe_int) (fun _ _ => rfl)) qa_nil)))) (qss_cons (qs_setC (ys := ["_law_kinds", "_law_cell", "_law_near"]) (js := [3, 6, 7]) rfl rfl (qi_range1 rfl X.z_range (qaN (qv 9) qa_nil)) (fun _ _ _ _ _ => qif_nil) (fun _ _ _ _ _ => (qe_tup (qaK (qe_call G_qword hr rfl X.m_qword X.F_qword.kp X.b_qword .nil pass0 (qaN (qv 3) (qaB (qe_op op_add qe_int (qv 0)) qa_nil))) (qaS (qe_ix (ix_listC (K := K) rfl) (qv 1) (qe_op op_sub (qe_op op_mod (qe_op op_fdiv (qv 2) qe_int) qe_int) (qv 0)) (fun _ _ => rfl)) qa_nil)))) (qg_name (i := 10) sc_qsigns.nd rfl (Or.inl rfl)) rfl) (qss_one (qs_expr (qe_bm PySem.F.plainAttrs_list PySem.F.slot_list_append PySem.F.type_list_append mt_append (qv 4) (qaT (qe_tup (qaK (qe_call G_qword hr rfl X.m_qword X.F_qword.kp X.b_qword .nil pass0 (qaN (qv 1) (qaN (qv 5) qa_nil))) (qaK (qe_callTy call_tuple_of rfl X.z_tuple PyProof.Rows.boot_tuple (qaN (qv 8) qa_nil)) (qaK (qe_callTy call_tuple_of rfl X.z_tuple PyProof.Rows.boot_tuple (qaN (qv 10) qa_nil)) qa_nil)))) qa_nil)))))))))) (qss_one (qs_ret (qe_callTy call_tuple_of rfl X.z_tuple PyProof.Rows.boot_tuple (qaN (qv 4) qa_nil)))))))), ?_⟩
  have k1 : Kp [d] H H := Kp.refl _ _
  have hd1 := hd
  obtain ⟨cs2, c0, rfl⟩ := snoc_of (l := cs) (by omega)
  rw [List.length_append, List.length_singleton] at l20 l90
  have hd1 : H d = some (.lst (cs2.map V.int ++ [.int c0])) := by rw [hd1, List.map_append]; rfl
  refine ⟨_, rfl, .inl ⟨rfl, _, SqL.of hd1⟩, d, _, .int c0, rfl, rfl, hd1, by simp, ?_⟩
  dsimp only
  rw [List.dropLast_concat]
  have k2 : Kp [d] H (upd H d (.lst (cs2.map V.int))) := k1.upd (by simp)
  have hd2 := upd_same (H := H) (a := d) (o := .lst (cs2.map V.int))
  generalize upd H d (.lst (cs2.map V.int)) = H2 at k2 hd2 ⊢
  refine ⟨(by show 4 <= sizeLine; decide), fun ka hka => ?_⟩
  have s3 := same_new hka (.lst [V.str "num", V.str "text", V.str "row", V.str "num"])
  have hka3 := upd_same (H := H2) (a := ka) (o := .lst [V.str "num", V.str "text", V.str "row", V.str "num"])
  have nka : ka ≠ d := fun z => by rw [z, hd2] at hka; cases hka
  refine ⟨(by show 0 <= sizeLine; decide), fun r hr' => ?_⟩
  have s4 := same_new hr' (.lst [])
  have nr : r ≠ d := fun z => by rw [z, s3 _ _ hd2] at hr'; cases hr'
  have nrk : ka ≠ r := fun z => by rw [<- z, hka3] at hr'; cases hr'
  refine ⟨(by show 8 <= sizeLine; decide), fun a5 h5 => ?_⟩
  have s5 := same_new h5 (.lst [.int 1, .int 2, .int 3, .int 4, .int 5, .int 6, .int 6, .int 6])
  have ha5 := upd_same (H := upd (upd H2 ka (.lst [V.str "num", V.str "text", V.str "row", V.str "num"])) r (.lst [])) (a := a5) (o := .lst [.int 1, .int 2, .int 3, .int 4, .int 5, .int 6, .int 6, .int 6])
  have hr5 := s5 _ _ (upd_same (H := upd H2 ka (.lst [V.str "num", V.str "text", V.str "row", V.str "num"])) (a := r) (o := .lst []))
  have hka5 := (s4.trans s5) _ _ hka3
  have s35 := s3.trans (s4.trans s5)
  have hd5 := s35 _ _ hd2
  have r0 : H r = none := k2.free (s3.free hr') (by simpa using nr)
  have n5 : a5 ≠ d := fun z => by rw [z, (s3.trans s4) _ _ hd2] at h5; cases h5
  have n5r : a5 ≠ r := fun z => by rw [z, upd_same] at h5; cases h5
  have k5 := k2.same s35
  generalize upd (upd (upd H2 ka (.lst [V.str "num", V.str "text", V.str "row", V.str "num"])) r (.lst [])) a5 (.lst [.int 1, .int 2, .int 3, .int 4, .int 5, .int 6, .int 6, .int 6]) = H5 at k5 ha5 hr5 hka5 hd5 ⊢
  obtain ⟨cs3, c3, rfl⟩ := snoc_of (l := cs2) (by omega)
  rw [List.length_append, List.length_singleton] at l20 l90
  have hd5 : H5 d = some (.lst (cs3.map V.int ++ [.int c3])) := by rw [hd5, List.map_append]; rfl
  obtain ⟨m, hm, m1, m6⟩ : ∃ m : Int, atI [V.int 1, V.int 2, V.int 3, V.int 4, V.int 5, V.int 6, V.int 6, V.int 6] (c3 % 8) = some (.int m) /\ 1 <= m /\ m <= 6 := by
    have : c3 % 8 = 0 \/ c3 % 8 = 1 \/ c3 % 8 = 2 \/ c3 % 8 = 3 \/ c3 % 8 = 4 \/ c3 % 8 = 5 \/ c3 % 8 = 6 \/ c3 % 8 = 7 := by omega
    rcases this with e | e | e | e | e | e | e | e <;> rw [e] <;> exact ⟨_, rfl, by decide, by decide⟩
  refine ⟨_, rfl, .inl ⟨rfl, _, SqL.of hd5⟩, d, _, .int c3, rfl, rfl, hd5, by simp, ?_⟩
  rw [List.dropLast_concat]
  refine ⟨_, _, rfl, rfl, (by show (0 : Int) < 8; decide), a5, _, _, .int m, rfl, rfl, SqL.of (by rw [upd_ne n5]; exact ha5), hm, _, rfl, by omega, by omega, ?_⟩
  have k6 : Kp [d] H (upd H5 d (.lst (cs3.map V.int))) := k5.upd (by simp)
  have hd6 := upd_same (H := H5) (a := d) (o := .lst (cs3.map V.int))
  have hr6 : upd H5 d (.lst (cs3.map V.int)) r = some (.lst []) := by rw [upd_ne nr]; exact hr5
  have hka6 : upd H5 d (.lst (cs3.map V.int)) ka = some (.lst [V.str "num", V.str "text", V.str "row", V.str "num"]) := by rw [upd_ne nka]; exact hka5
  generalize upd H5 d (.lst (cs3.map V.int)) = H6 at k6 hd6 hr6 hka6 ⊢
  refine for_range (n := m.toNat) (fun i σ H' => ∃ (ds : List Int) (sg : List Sg) (us : List V) (x5 x6 x7 x8 x9 x10 : Option V), σ = [some (.ref d), some (.int w0), some (.int c0), some (.ref ka), some (.ref r), x5, x6, x7, x8, x9, x10] /\ Kp [d, r] H6 H' /\ H' d = some (.lst (ds.map V.int)) /\ ds.length + i = cs3.length /\ H' r = some (.lst us) /\ L2R (SgIs H') sg us /\ sg.length = i /\ (∀ s ∈ sg, SgG s) /\ (∀ (j : Nat) s, sg[j]? = some s -> s.nm = wrd w0 j) /\ (∀ s, sg[0]? = some s -> 1 <= s.up.length))
    ⟨cs3, [], [], none, none, none, none, none, none, rfl, Kp.refl _ _, hd6, rfl, hr6, .nil, rfl, (fun s hs => nomatch hs), (fun j s h => by simp at h), (fun s h => by simp at h)⟩ ?_ ?_
  · rintro i σ H' hi ⟨ds, sg, us, x5, x6, x7, x8, x9, x10, rfl, kp, hd', ld, hr2, hus, lsg, gd, nms, u00⟩
    have hi6 : i < 6 := by omega
    have lus := hus.len
    obtain ⟨ds', c, rfl⟩ := snoc_of (l := ds) (by simp at l20; omega)
    rw [List.length_append, List.length_singleton] at ld
    have hd' : H' d = some (.lst (ds'.map V.int ++ [.int c])) := by rw [hd', List.map_append]; rfl
    refine ⟨_, rfl, .inl ⟨rfl, _, SqL.of hd'⟩, d, _, .int c, rfl, rfl, hd', by simp, ?_⟩
    dsimp only
    rw [List.dropLast_concat]
    have T1 : SameT H' (upd H' d (.lst (ds'.map V.int))) := sameT_lst hd'
    have kp1 : Kp [d, r] H6 (upd H' d (.lst (ds'.map V.int))) := kp.upd (by simp)
    have hd1 := upd_same (H := H') (a := d) (o := .lst (ds'.map V.int))
    have hr1 : upd H' d (.lst (ds'.map V.int)) r = some (.lst us) := by rw [upd_ne nr]; exact hr2
    have hus1 : L2R (SgIs (upd H' d (.lst (ds'.map V.int)))) sg us := hus.imp fun _ _ h => SgIs.same T1 h
    generalize upd H' d (.lst (ds'.map V.int)) = G1 at kp1 hd1 hr1 hus1 ⊢
    have hka1 := kp1 _ _ (by simp; exact ⟨nka, nrk⟩) hka6
    refine ⟨_, rfl, _, rfl, _, rfl, (by show 3 <= sizeLine; decide), fun a2 h2 => ?_⟩
    have s2 := same_new h2 (.lst [.int c, .int c0, .int w0])
    obtain ⟨near, hnear⟩ : ∃ near : Int, atI [V.int c, V.int c0, V.int w0] (c0 % 3) = some (.int near) := by
      have : c0 % 3 = 0 \/ c0 % 3 = 1 \/ c0 % 3 = 2 := by omega
      rcases this with e | e | e <;> rw [e] <;> exact ⟨_, rfl⟩
    refine ⟨_, rfl, _, _, rfl, rfl, (by show (0 : Int) < 3; decide), a2, _, _, .int near, rfl, rfl, SqL.of upd_same, hnear, ?_⟩
    have hka2 := s2 _ _ hka1
    generalize upd G1 a2 (.lst [.int c, .int c0, .int w0]) = G2 at s2 hka2 ⊢
    have c30 := Int.emod_nonneg c (show (3 : Int) ≠ 0 by decide)
    have c31 := Int.emod_lt_of_pos c (show (0 : Int) < 3 by decide)
    refine ⟨_, rfl, _, _, rfl, rfl, (by show (0 : Int) < 3; decide), _, rfl, by omega, by omega, fun D hD => ?_⟩
    refine comp_rng (fun j acc G => PrsI near 0 D G2 j acc G) (Nat.lt_of_le_of_lt (show (c % 3).toNat <= 1000 by omega) (by decide)) ⟨[], rfl, (fun j p h => by simp at h), .nil, same_new hD _, upd_same⟩ (fun j acc G ⟨prs, l, _, r, _, d⟩ => ⟨d, by rw [r.len, l]⟩) ?_ ?_
    · rintro j m' acc G hj I hm'
      have I' := I
      obtain ⟨prs, l, e, rr, sm, dd⟩ := I'
      obtain ⟨kd, hkd, mk⟩ := kind_at (m := c / 27 % 4 - (0 + (j : Int))) (by omega) (by omega)
      refine ⟨_, rfl, _, rfl, near, _, rfl, fun Gw sw => ⟨_, rfl, _, rfl, _, _, rfl, rfl, ⟨by decide, by decide⟩, _, _, rfl, rfl, (by show (0 : Int) < 4; decide), _, rfl, _, _, rfl, rfl, ka, _, _, .str kd, rfl, rfl, SqL.of ((sm.trans sw) _ _ hka2), hkd, (by show 2 <= sizeLine; decide), fun t ht => ?_⟩⟩
      exact cstep hj hm' (same_new ht _ _ _ (sw _ _ dd)) ((I.same sw).step mk ht hD)
    rintro dacc G3 ⟨dn, ldn, edn, rdn, s3', hD3⟩
    have ldn2 : dn.length <= 2 := by omega
    have s23 := s2.trans s3'
    refine ⟨_, rfl, rfl, .inr ⟨_, rfl, ?_⟩⟩
    refine ⟨(by show 5 <= sizeLine; decide), fun a4 h4 => ?_⟩
    have s4' := same_new h4 (.lst [.int 1, .int 2, .int 2, .int 1, .int 0])
    obtain ⟨u, hu, u0, u2⟩ : ∃ u : Int, atI [V.int 1, V.int 2, V.int 2, V.int 1, V.int 0] (c / 3 % 5) = some (.int u) /\ 0 <= u /\ u <= 2 := by
      have : c / 3 % 5 = 0 \/ c / 3 % 5 = 1 \/ c / 3 % 5 = 2 \/ c / 3 % 5 = 3 \/ c / 3 % 5 = 4 := by omega
      rcases this with e | e | e | e | e <;> rw [e] <;> exact ⟨_, rfl, by decide, by decide⟩
    refine ⟨_, rfl, _, _, rfl, rfl, ⟨by decide, by decide⟩, _, _, rfl, rfl, (by show (0 : Int) < 5; decide), a4, _, _, .int u, rfl, rfl, SqL.of upd_same, hu, _, _, rfl, ?_⟩
    have s24 := s23.trans s4'
    have hka4 := (s3'.trans s4') _ _ hka2
    have hD4 := s4' _ _ hD3
    have rdn4 : L2R (PrIs (upd G3 a4 (.lst [.int 1, .int 2, .int 2, .int 1, .int 0]))) dn dacc := rdn.imp fun _ _ h => PrIs.same (sameT s4') h
    generalize upd G3 a4 (.lst [.int 1, .int 2, .int 2, .int 1, .int 0]) = G4 at s24 hka4 hD4 rdn4 ⊢
    obtain ⟨mu, hmu, ⟨b0, b00⟩, b2⟩ : ∃ mu : Int, (if u > (if decide (V.int (0 + (i : Int)) = V.int 0) = true then 1 else 0) then u else (if decide (V.int (0 + (i : Int)) = V.int 0) = true then 1 else 0)) = mu /\ (0 <= mu /\ (i = 0 -> 1 <= mu)) /\ mu <= 2 := by
      refine ⟨_, rfl, ⟨?_, fun hi0 => ?_⟩, ?_⟩
      · split <;> first | omega | (split <;> omega)
      · rw [decide_eq_true (show V.int (0 + (i : Int)) = V.int 0 by rw [hi0]; rfl), if_pos rfl]
        split <;> omega
      · split <;> first | omega | (split <;> omega)
    rw [hmu]
    refine ⟨_, rfl, _, rfl, by omega, by omega, fun D2 hD2 => ?_⟩
    refine comp_rng (fun j acc G => PrsI near 2 D2 G4 j acc G) (Nat.lt_of_le_of_lt (show mu.toNat <= 1000 by omega) (by decide)) ⟨[], rfl, (fun j p h => by simp at h), .nil, same_new hD2 _, upd_same⟩ (fun j acc G ⟨prs, l, _, r, _, d⟩ => ⟨d, by rw [r.len, l]⟩) ?_ ?_
    · rintro j m' acc G hj I hm'
      have I' := I
      obtain ⟨prs, l, e, rr, sm, dd⟩ := I'
      obtain ⟨kd, hkd, mk⟩ := kind_at (m := c / 108 % 4 - (0 + (j : Int))) (by omega) (by omega)
      have ej : (2 : Int) + (0 + (j : Int)) = 2 + (j : Int) := by omega
      refine ⟨_, rfl, _, rfl, _, _, rfl, rfl, near, _, rfl, fun Gw sw => ⟨_, rfl, _, rfl, _, _, rfl, rfl, ⟨by decide, by decide⟩, _, _, rfl, rfl, (by show (0 : Int) < 4; decide), _, rfl, _, _, rfl, rfl, ka, _, _, .str kd, rfl, rfl, SqL.of ((sm.trans sw) _ _ hka4), hkd, (by show 2 <= sizeLine; decide), fun t ht => ?_⟩⟩
      rw [ej]
      exact cstep hj hm' (same_new ht _ _ _ (sw _ _ dd)) ((I.same sw).step mk ht hD2)
    rintro uacc G5 ⟨up, lup, eup, rup, s5', hD5⟩
    have lup2 : up.length <= 2 := by omega
    have hD5' := s5' _ _ hD4
    have rdn5 : L2R (PrIs G5) dn dacc := rdn4.imp fun _ _ h => PrIs.same (sameT s5') h
    have sA := s24.trans s5'
    have hrA := sA _ _ hr1
    have hdA := sA _ _ hd1
    refine ⟨_, rfl, .inl ⟨rfl, _, SqL.of hrA⟩, _, rfl, _, rfl, w0, _, rfl, fun Gw sw => ?_⟩
    replace hD5 := sw _ _ hD5
    replace hD5' := sw _ _ hD5'
    replace rdn5 : L2R (PrIs Gw) dn dacc := rdn5.imp fun _ _ h => PrIs.same (sameT sw) h
    replace rup : L2R (PrIs Gw) up uacc := rup.imp fun _ _ h => PrIs.same (sameT sw) h
    replace sA := sA.trans sw
    replace hrA := sw _ _ hrA
    replace hdA := sw _ _ hdA
    refine ⟨_, rfl, D, dacc, rfl, .inl ⟨SqL.of hD5', fun t1 ht1 => ?_⟩⟩
    have z1 := same_new ht1 (.tup dacc)
    refine ⟨_, rfl, D2, uacc, rfl, .inl ⟨SqL.of (z1 _ _ hD5), fun t2 ht2 => ?_⟩⟩
    have z2 := same_new ht2 (.tup uacc)
    refine ⟨(by show 3 <= sizeLine; decide), fun t3 ht3 => ?_⟩
    have e0 : (0 + (i : Int)) = (i : Int) := by omega
    rw [e0]
    have z3 := same_new ht3 (.tup [.str (wrd w0 (i : Int)), .ref t1, .ref t2])
    have zz := z1.trans (z2.trans z3)
    have hrZ := zz _ _ hrA
    refine ⟨r, us, _, rfl, rfl, hrZ, fitsL (by omega), ?_⟩
    have g1 := (z2.trans z3) _ _ (upd_same (H := Gw) (a := t1) (o := .tup dacc))
    have g2 := z3 _ _ (upd_same (H := upd Gw t1 (.tup dacc)) (a := t2) (o := .tup uacc))
    have g3 := upd_same (H := upd (upd Gw t1 (.tup dacc)) t2 (.tup uacc)) (a := t3) (o := .tup [.str (wrd w0 (i : Int)), .ref t1, .ref t2])
    generalize upd (upd (upd Gw t1 (.tup dacc)) t2 (.tup uacc)) t3 (.tup [.str (wrd w0 (i : Int)), .ref t1, .ref t2]) = G6 at zz hrZ g1 g2 g3 ⊢
    have TL : SameT G6 (upd G6 r (.lst (us ++ [.ref t3]))) := sameT_lst hrZ
    have TA := (sameT (sA.trans zz)).trans TL
    have TB := (sameT zz).trans TL
    refine ⟨ds', sg ++ [⟨wrd w0 (i : Int), dn, up⟩], us ++ [.ref t3], _, _, _, _, _, _, rfl, (kp1.same (sA.trans zz)).upd (by simp), by rw [upd_ne nr.symm]; exact zz _ _ hdA, by omega, upd_same, ?_, by rw [List.length_append, lsg]; rfl, ?_, ?_, ?_⟩
    · exact (hus1.imp fun _ _ h => SgIs.same TA h).snoc ⟨t3, t1, t2, dacc, uacc, rfl, TL _ _ g3, TL _ _ g1, rdn5.imp fun _ _ h => PrIs.same TB h, TL _ _ g2, rup.imp fun _ _ h => PrIs.same TB h⟩
    · intro s hs
      rcases List.mem_append.mp hs with h | h
      · exact gd s h
      · rw [List.mem_singleton.mp h]
        refine ⟨fun p hp => ?_, pairs_nd (c := near) (fun j p hp => by have := (edn j p hp).1; rw [this, show (0 : Int) + (j : Int) = (j : Int) by omega]) (fun j p hp => (eup j p hp).1) ldn2 lup2, ldn2, lup2, wrd_tx _ _⟩
        rcases List.mem_append.mp hp with h | h
        · obtain ⟨j, hj⟩ := List.getElem?_of_mem h
          obtain ⟨h1, h2⟩ := edn j p hj
          exact ⟨by rw [h1]; exact wrd_ok _ _, h2⟩
        · obtain ⟨j, hj⟩ := List.getElem?_of_mem h
          obtain ⟨h1, h2⟩ := eup j p hj
          exact ⟨by rw [h1]; exact wrd_ok _ _, h2⟩
    · intro j s hs
      by_cases hj : j < sg.length
      · rw [List.getElem?_append_left hj] at hs
        exact nms j s hs
      · rw [List.getElem?_append_right (by omega)] at hs
        have hj0 : j - sg.length = 0 := by
          rcases Nat.eq_zero_or_pos (j - sg.length) with h | h
          · exact h
          · rw [List.getElem?_eq_none (by simp; omega)] at hs; cases hs
        rw [hj0] at hs
        cases hs
        have : j = i := by omega
        subst this
        rfl
    · intro s hs
      by_cases hj : 0 < sg.length
      · rw [List.getElem?_append_left hj] at hs
        exact u00 s hs
      · have hi0 : i = 0 := by omega
        have hs0 : sg = [] := List.length_eq_zero_iff.mp (by omega)
        rw [hs0] at hs
        cases hs
        show 1 <= up.length
        have := b00 hi0
        omega
  · rintro σ H' ⟨ds, sg, us, x5, x6, x7, x8, x9, x10, rfl, kp, hd', ld, hr2, hus, lsg, gd, nms, u00⟩
    have lus := hus.len
    refine ⟨_, rfl, r, _, rfl, .inl ⟨SqL.of hr2, fun a ha => ?_⟩⟩
    have s7 := same_new ha (.tup us)
    refine q a us sg ds _ (fun b o n h => ?_) (s7 _ _ hd') (by simp; omega) (by omega) upd_same (hus.imp fun _ _ h => SgIs.same (sameT s7) h) ⟨fun s hs => by obtain ⟨j, hj⟩ := List.getElem?_of_mem hs; rw [nms j s hj]; exact wrd_ok _ _, gd, names_nd nms (by omega), by omega, by omega, u00⟩
    have nb : b ≠ r := fun z => by rw [z, r0] at h; cases h
    exact s7 _ _ (kp b o (by simp; exact ⟨by simpa using n, nb⟩) (k6 b o n h))
end
end K12
namespace K12
open PySem L2
open TM 
def sideV (k : Nat) (s : Sg) (b : Nat) : List Vl := (if b = 0 then s.dn else s.up).map fun p => ((k : Int), p.1, p.2, (b : Int))
def vlF (k : Nat) : List Sg -> List Vl
  | [] => []
  | s :: r => sideV k s 0 ++ sideV k s 1 ++ vlF (k + 1) r
theorem vlF_snoc : ∀ (ss : List Sg) (k : Nat) (s : Sg), vlF k (ss ++ [s]) = vlF k ss ++ (sideV (k + ss.length) s 0 ++ sideV (k + ss.length) s 1)
  | [], k, s => by simp [vlF]
  | x :: ss, k, s => by
    rw [List.cons_append, vlF, vlF, vlF_snoc ss (k + 1) s, List.append_assoc, List.append_assoc, List.append_assoc, List.length_cons]
    have e : k + 1 + ss.length = k + (ss.length + 1) := by omega
    rw [e]
structure AtS (sg : List Sg) (at_ : List Nat) (ss : List Sg) : Prop where
  l : ss.length = at_.length
  e : ∀ (i : Nat) (n : Nat), at_[i]? = some n -> ∃ s, sg[n]? = some s /\ ss[i]? = some s
def atV (at_ : List Nat) : List V := at_.map fun (n : Nat) => V.int (n : Int)
def spValues : Sp := fun vs H Q _ => ∃ (a l : Addr) (us : List V) (sg ss : List Sg) (at_ : List Nat), vs = [.ref a, .ref l] /\ H a = some (.tup us) /\ L2R (SgIs H) sg us /\ H l = some (.lst (atV at_)) /\ AtS sg at_ ss /\ at_.length <= 10 /\ (∀ s ∈ sg, SgG s) /\
  ∀ (D : Addr) (xs : List V) (H' : Hp), Same H H' -> H D = none -> H' D = some (.lst xs) -> L2R (VlIs H') (vlF 0 ss) xs -> Q (.ref D) H'
section
variable {P : Program} {w : World} {K : PySem.W.Frag} {mg : Str -> Option Value} {base : Heap} {T : Adr}
theorem ok_values (X : Tx K w mg T) : FnOk P w K mg base CX0 1 T.qvalues T.d_qvalues ["_law_signs_here", "_law_at"] spValues := by
  refine X.F_qvalues.okQ sc_qvalues (fun vs H Q E h => ?_) (fun cdv A outer s H vs Q E hr h => ?_)
  · obtain ⟨_, _, _, _, _, _, rfl, _⟩ := h
    rfl
  obtain ⟨a, l, us, sg, ss, at_, rfl, ha, hus, hl, ats, l10, gd, q⟩ := h
  refine ⟨_, (qss_cons (qs_set (i := 2) sc_qvalues.nd rfl (Or.inl rfl) (qe_lst qa_nil)) (qss_cons (qs_for PassesOwn.never rfl (qi_range1 rfl X.z_range (qaK (qe_callB call_len_seq rfl X.z_len PySem.boot_len (qaN (qv 1) qa_nil)) qa_nil)) (qg_name (i := 3) sc_qvalues.nd rfl (Or.inl rfl)) (qss_one (qs_for PassesOwn.never rfl (qi_range1 rfl X.z_range (qaC qe_int qa_nil)) (qg_name (i := 4) sc_qvalues.nd rfl (Or.inl rfl)) (qss_one (qs_for PassesOwn.never rfl (qi_tup (qe_ix ix_tup (qe_ix ix_tup (qv 0) (qe_ix ix_list (qv 1) (qv 3) (fun _ _ => rfl)) (fun _ _ => rfl)) (qe_op op_add qe_int (qv 4)) (fun _ _ => rfl))) (qg_tup rfl (qgs_cons (qg_name (i := 5) sc_qvalues.nd rfl (Or.inl rfl)) (qgs_cons (qg_name (i := 6) sc_qvalues.nd rfl (Or.inl rfl)) qgs_nil))) (qss_one (qs_expr (qe_bm PySem.F.plainAttrs_list PySem.F.slot_list_append PySem.F.type_list_append mt_append (qv 2) (qaT (qe_tup (qaN (qv 3) (qaN (qv 5) (qaN (qv 6) (qaN (qv 4) qa_nil))))) qa_nil))))))))) (qss_one (qs_ret (qv 2))))), ?_⟩
  have lss := ats.l
  refine ⟨(by show 0 <= sizeLine; decide), fun D hD => ?_⟩
  have s0 := same_new hD (.lst [])
  have nl : l ≠ D := fun z => by rw [z, hD] at hl; cases hl
  have lat : (atV at_).length = at_.length := by unfold atV; rw [List.length_map]
  refine ⟨_, rfl, l, _, rfl, .inl (SqL.of (s0 _ _ hl)), _, rfl, by omega, by omega, ?_⟩
  refine for_range (n := ((atV at_).length : Int).toNat) (fun i σ H' => ∃ (xs : List V) (x3 x4 x5 x6 : Option V), σ = [some (.ref a), some (.ref l), some (.ref D), x3, x4, x5, x6] /\ Same H H' /\ H' D = some (.lst xs) /\ L2R (VlIs H') (vlF 0 (ss.take i)) xs /\ xs.length <= 4 * i) ⟨[], none, none, none, none, rfl, s0, upd_same, .nil, Nat.zero_le _⟩ ?_ ?_
  · rintro i σ H' hi ⟨xs, x3, x4, x5, x6, rfl, sm, hD', hxs, lxs⟩
    have hi : i < at_.length := by omega
    obtain ⟨n, hn⟩ : ∃ n, at_[i]? = some n := ⟨_, List.getElem?_eq_getElem hi⟩
    obtain ⟨s, hs, hss⟩ := ats.e i n hn
    have gs := gd s (List.mem_of_getElem? hs)
    have ltk : (ss.take i).length = i := by rw [List.length_take]; omega
    have e0 : (0 + (i : Int)) = (i : Int) := by omega
    obtain ⟨v, hv, hsv⟩ := L2R.at hus hs
    obtain ⟨p, da, ua, dus, uus, rfl, hp, hda, hdn, hua, hup⟩ := hsv
    refine ⟨_, rfl, (by decide), (by decide), ?_⟩
    refine for_range (n := 2) (fun b σ H2 => ∃ (ys : List V) (y4 y5 y6 : Option V), σ = [some (.ref a), some (.ref l), some (.ref D), some (.int (i : Int)), y4, y5, y6] /\ Same H H2 /\ H2 D = some (.lst ys) /\ L2R (VlIs H2) (vlF 0 (ss.take i) ++ (List.range b).flatMap (sideV i s)) ys /\ ys.length <= 4 * i + 2 * b /\ b <= 2) ⟨xs, _, _, _, by rw [e0]; rfl, sm, hD', by simpa using hxs, by omega, by decide⟩ ?_ ?_
    · rintro b σ H2 hb ⟨ys, y4, y5, y6, rfl, sm2, hD2, hys, lys, b2⟩
      have hp2 := sm2 _ _ hp
      obtain ⟨ra, rus, rps, hra, hrp, hat, lrp, erp⟩ : ∃ (ra : Addr) (rus : List V) (rps : List (Str × Str)), H ra = some (.tup rus) /\ L2R (PrIs H) rps rus /\ atI [V.str s.nm, V.ref da, V.ref ua] (1 + (0 + (b : Int))) = some (.ref ra) /\ rps.length <= 2 /\ sideV i s b = rps.map fun p => ((i : Int), p.1, p.2, (b : Int)) := by
        have : b = 0 \/ b = 1 := by omega
        rcases this with rfl | rfl
        · exact ⟨da, dus, s.dn, hda, hdn, rfl, gs.ld, rfl⟩
        · exact ⟨ua, uus, s.up, hua, hup, rfl, gs.lu, rfl⟩
      have lr := hrp.len
      refine ⟨_, rfl, _, rfl, _, rfl, l, _, _, .int (n : Int), rfl, rfl, SqL.of (sm2 _ _ hl), atI_nat (by unfold atV; rw [List.getElem?_map, hn]; rfl), a, _, _, .ref p, rfl, rfl, SqT.of (sm2 _ _ ha), atI_nat hv, _, rfl, _, _, rfl, rfl, p, _, _, .ref ra, rfl, rfl, SqT.of hp2, hat, ra, rfl, ⟨_, SqT.of (sm2 _ _ hra)⟩, ?_⟩
      refine for_tup (K := K) (a := ra) (xs := rus) (fun j σ H3 => ∃ (zs : List V) (z5 z6 : Option V), σ = [some (.ref a), some (.ref l), some (.ref D), some (.int (i : Int)), some (.int (0 + (b : Int))), z5, z6] /\ Same H H3 /\ H3 D = some (.lst zs) /\ L2R (VlIs H3) (vlF 0 (ss.take i) ++ (List.range b).flatMap (sideV i s) ++ (rps.take j).map fun p => ((i : Int), p.1, p.2, (b : Int))) zs /\ zs.length <= 4 * i + 2 * b + j) ⟨ys, _, _, rfl, sm2, hD2, by simpa using hys, by omega⟩ (fun j σ H3 _ ⟨_, _, _, _, sm3, _⟩ => SqT.of (sm3 _ _ hra)) ?_ ?_
      · rintro j v3 σ H3 hv3 ⟨zs, z5, z6, rfl, sm3, hD3, hzs, lzs⟩
        obtain ⟨⟨nm, kd⟩, hnk, q3, rfl, hq3⟩ := hrp.get hv3
        have hjl := lt_of_some hnk
        refine ⟨q3, _, rfl, SqT.of (sm3 _ _ hq3), rfl, _, _, rfl, _, _, rfl, rfl, ?_⟩
        refine ⟨_, rfl, .inl ⟨rfl, _, SqL.of hD3⟩, _, rfl, _, rfl, _, rfl, _, rfl, (by show 4 <= sizeLine; decide), fun t ht => ?_⟩
        have s4 := same_new ht (.tup [.int (i : Int), .str nm, .str kd, .int (0 + (b : Int))])
        have hD4 := s4 _ _ hD3
        refine ⟨D, zs, _, rfl, rfl, hD4, fitsL (by omega), zs ++ [.ref t], _, _, rfl, same_upd hD (sm3.trans s4), upd_same, ?_, by rw [List.length_append, List.length_singleton]; omega⟩
        rw [take_snocA hnk, List.map_append, <- List.append_assoc]
        have TL := sameT_lst (ys := zs ++ [.ref t]) hD4
        refine (hzs.imp fun _ _ h => VlIs.same ((sameT s4).trans TL) h).snoc ⟨t, rfl, TL _ _ ?_⟩
        rw [upd_same, show (0 + (b : Int)) = (b : Int) by omega]
      · rintro σ H3 ⟨zs, z5, z6, rfl, sm3, hD3, hzs, lzs⟩
        rw [show rps.take rus.length = rps from List.take_of_length_le (by omega)] at hzs
        refine ⟨zs, _, _, _, rfl, sm3, hD3, ?_, by omega, by omega⟩
        rw [List.range_succ, List.flatMap_append, <- List.append_assoc]
        have e1 : [b].flatMap (sideV i s) = rps.map fun p => ((i : Int), p.1, p.2, (b : Int)) := by rw [<- erp]; simp
        rw [e1]
        exact hzs
    · rintro σ H2 ⟨ys, y4, y5, y6, rfl, sm2, hD2, hys, lys, b2⟩
      refine ⟨ys, _, _, _, _, rfl, sm2, hD2, ?_, by omega⟩
      rw [take_snocA hss, vlF_snoc, ltk, Nat.zero_add]
      have e : (List.range 2).flatMap (sideV i s) = sideV i s 0 ++ sideV i s 1 := by
        show (List.range 2).flatMap _ = _
        rw [show List.range 2 = [0, 1] from rfl]
        simp
      rw [<- e]
      exact hys
  · rintro σ H' ⟨xs, x3, x4, x5, x6, rfl, sm, hD', hxs, lxs⟩
    rw [List.take_of_length_le (by omega)] at hxs
    exact ⟨_, rfl, q D xs H' sm hD hD' hxs⟩
end
end K12
namespace K12
open PySem L2
open TM 
def dueV (e : Vl) : Bool := decide (V.bl (decide (V.int e.1 = V.int 0)) = V.bl (decide (V.int e.2.2.2 = V.int 1)))
def keyV (e : Vl) : Int × Str := (e.1, e.2.1)
def duesV (ss : List Sg) : List (Int × Str) := ((vlF 0 ss).filter dueV).map keyV
theorem dueV_eq (k : Int) (n kd : Str) (b : Int) : dueV (k, n, kd, b) = decide (k = 0 ↔ b = 1) := by
  unfold dueV
  refine decide_eq_decide.mpr ⟨fun h => ?_, fun h => ?_⟩
  · have h := V.bl.inj h
    have h := decide_eq_decide.mp h
    exact ⟨fun z => V.int.inj (h.mp (by rw [z])), fun z => V.int.inj (h.mpr (by rw [z]))⟩
  · congr 1
    exact decide_eq_decide.mpr ⟨fun z => by rw [h.mp (V.int.inj z)], fun z => by rw [h.mpr (V.int.inj z)]⟩
theorem side_all {k : Nat} {s : Sg} {b : Nat} (h : ((k : Int) = 0 ↔ (b : Int) = 1)) : (sideV k s b).filter dueV = sideV k s b := List.filter_eq_self.mpr fun e he => by
  unfold sideV at he
  obtain ⟨p, _, rfl⟩ := List.mem_map.mp he
  rw [dueV_eq]
  exact decide_eq_true h
theorem side_no {k : Nat} {s : Sg} {b : Nat} (h : ¬ ((k : Int) = 0 ↔ (b : Int) = 1)) : (sideV k s b).filter dueV = [] := List.filter_eq_nil_iff.mpr fun e he => by
  unfold sideV at he
  obtain ⟨p, _, rfl⟩ := List.mem_map.mp he
  rw [dueV_eq, decide_eq_false h]
  decide
theorem due_eq' : ∀ (ss : List Sg) (k : Nat), ((vlF k ss).filter dueV).map keyV = duesF k ss
  | [], k => rfl
  | s :: r, k => by
    rw [vlF, duesF, List.filter_append, List.filter_append, List.map_append, List.map_append, due_eq' r (k + 1)]
    congr 1
    by_cases h0 : k = 0
    · subst h0
      rw [side_no (by simp), side_all (by simp), if_pos rfl]
      unfold sideV keyV
      simp
    · rw [side_all (by constructor <;> intro h <;> omega), side_no (by intro h; have := h.mpr rfl; omega), if_neg h0]
      unfold sideV keyV
      simp
theorem due_eq (ss : List Sg) : duesV ss = duesF 0 ss := due_eq' ss 0
theorem duesF_len : ∀ (ss : List Sg) (k : Nat), (∀ s ∈ ss, SgG s) -> (duesF k ss).length <= 2 * ss.length
  | [], k, _ => by rw [duesF]; simp
  | s :: r, k, h => by
    rw [duesF, List.length_append, List.length_map, List.length_cons]
    have h1 := h s (by simp)
    have h2 := duesF_len r (k + 1) fun x hx => h x (by simp [hx])
    have l1 := h1.ld
    have l2 := h1.lu
    split <;> omega
def keyR (r : Ru) : Int × Str := (r.k, r.nm)
theorem call_len_seqC {X : Cx} {K : PySem.W.Frag} (h : X.K = K) : CallR X (.builtin "len") (fun xs H Q => ∃ p ys, xs = [V.ref p] /\ (SqL K H p ys \/ SqT K H p ys) /\ Q (V.int ys.length) H) := h ▸ call_len_seq
theorem vlF_mem : ∀ (ss : List Sg) (k : Nat), ∀ e ∈ vlF k ss, ∃ (i : Nat) (s : Sg), ss[i]? = some s /\ e.1 = ((k + i : Nat) : Int) /\ ∃ p ∈ s.dn ++ s.up, e.2.1 = p.1 /\ e.2.2.1 = p.2
  | [], k, e, h => by rw [vlF] at h; cases h
  | s :: r, k, e, h => by
    rw [vlF] at h
    rcases List.mem_append.mp h with h | h
    · refine ⟨0, s, rfl, ?_⟩
      rcases List.mem_append.mp h with h | h
      · unfold sideV at h
        obtain ⟨p, hp, rfl⟩ := List.mem_map.mp h
        exact ⟨rfl, p, List.mem_append.mpr (.inl hp), rfl, rfl⟩
      · unfold sideV at h
        obtain ⟨p, hp, rfl⟩ := List.mem_map.mp h
        exact ⟨rfl, p, List.mem_append.mpr (.inr hp), rfl, rfl⟩
    · obtain ⟨i, s', h1, h2, h3⟩ := vlF_mem r (k + 1) e h
      exact ⟨i + 1, s', by simpa using h1, by rw [h2]; omega, h3⟩
def EV (ss : List Sg) : KEnv := fun k z kd => ∃ b, (k, z, kd, b) ∈ vlF 0 ss
def RuG (ss : List Sg) (r : Ru) : Prop := ∃ kd, kd ∈ kinds3 /\ EV ss r.k r.nm kd /\ TmG (EV ss) kd 6 30 r.tm
structure FmG (f : Fm) (ss : List Sg) : Prop where
  nm : ss.map Sg.nm = f.hd :: f.br
  ru : (f.ru.map keyR).Perm (duesV ss)
  ok : ∀ r ∈ f.ru, RuG ss r
def spForm : Sp := fun vs H Q _ => ∃ (a l d : Addr) (us : List V) (sg ss : List Sg) (at_ : List Nat) (nm : Str) (cs : List Int), vs = [.ref a, .str nm, .ref l, .ref d] /\ H a = some (.tup us) /\ L2R (SgIs H) sg us /\ H l = some (.lst (atV at_)) /\ AtS sg at_ ss /\ 1 <= at_.length /\ at_.length <= 4 /\ (∀ s ∈ sg, SgG s) /\ l ≠ d /\ H d = some (.lst (cs.map V.int)) /\ 2 * at_.length + 1 <= cs.length /\ cs.length <= 90 /\
  ∀ (v : V) (f : Fm) (cs' : List Int) (H' : Hp), Kp [d] H H' -> H' d = some (.lst (cs'.map V.int)) -> cs.length <= cs'.length + (2 * at_.length + 1) -> cs'.length <= 90 -> FmIs H' f v -> f.nm = nm -> FmG f ss -> Q v H'
theorem l2r_drop {α : Type} {R : α -> V -> Prop} : ∀ {as : List α} {vs : List V} (k : Nat), L2R R as vs -> L2R R (as.drop k) (vs.drop k)
  | _, _, _, .nil => by rw [List.drop_nil, List.drop_nil]; exact .nil
  | _, _, 0, .cons x y => .cons x y
  | _, _, k + 1, .cons x y => by rw [List.drop_succ_cons, List.drop_succ_cons]; exact l2r_drop k y
theorem l2r_take {α : Type} {R : α -> V -> Prop} : ∀ {as : List α} {vs : List V} (k : Nat), L2R R as vs -> L2R R (as.take k) (vs.take k)
  | _, _, _, .nil => by rw [List.take_nil, List.take_nil]; exact .nil
  | _, _, 0, .cons x y => .nil
  | _, _, k + 1, .cons x y => by rw [List.take_succ_cons, List.take_succ_cons]; exact .cons x (l2r_take k y)
theorem AtS.mem {sg : List Sg} {at_ : List Nat} {ss : List Sg} (h : AtS sg at_ ss) : ∀ s ∈ ss, s ∈ sg := fun s hs => by
  obtain ⟨i, hi⟩ := List.getElem?_of_mem hs
  have hl := lt_of_some hi
  obtain ⟨n, hn⟩ : ∃ n, at_[i]? = some n := ⟨_, List.getElem?_eq_getElem (by have := h.l; omega)⟩
  obtain ⟨s', h1, h2⟩ := h.e i n hn
  rw [hi] at h2
  cases h2
  exact List.mem_of_getElem? h1
section
variable {P : Program} {w : World} {K : PySem.W.Frag} {mg : Str -> Option Value} {base : Heap} {T : Adr}
theorem ok_form (X : Tx K w mg T) : FnOk P w K mg base CX0 3 T.qform T.d_qform ["_law_signs_here", "_law_name", "_law_at", "_law_deck_here"] spForm := by
  have G_qvalues := (ok_values (P := P) (w := w) (base := base) X).mono (show 1 <= 2 by decide)
  have G_qterm := ok_term (P := P) (w := w) (base := base) X
  refine X.F_qform.okQ sc_qform (fun vs H Q E h => ?_) (fun cdv A outer s H vs Q E hr h => ?_)
  · obtain ⟨_, _, _, _, _, _, _, _, _, rfl, _⟩ := h
    rfl
  obtain ⟨a, l, d, us, sg, ss, at_, nm, cs, rfl, ha, hus, hl, ats, l1, l4, gd, nld, hd, lcs, l90, q⟩ := h
  refine ⟨_, (qss_cons (qs_set (i := 4) sc_qform.nd rfl (Or.inr rfl) (qe_call G_qvalues hr rfl X.m_qvalues X.F_qvalues.kp X.b_qvalues .nil pass0 (qaN (qv 0) (qaN (qv 2) qa_nil)))) (qss_cons (qs_set (i := 5) sc_qform.nd rfl (Or.inl rfl) (qe_lst qa_nil)) (qss_cons (qs_for PassesOwn.never rfl (qi_list (qv 4)) (qg_name (i := 6) sc_qform.nd rfl (Or.inl rfl)) (qss_one (qs_if (qt_cmpR op_eq (qe_cmpR op_eq (qe_ix ix_tup (qv 6) qe_int (fun _ _ => rfl)) qe_int (nomark _)) (qe_cmpR op_eq (qe_ix ix_tup (qv 6) qe_int (fun _ _ => rfl)) qe_int (nomark _)) (nomark _)) (qss_cons (qs_set (i := 7) sc_qform.nd rfl (Or.inr rfl) (qe_bm0 PySem.F.plainAttrs_list PySem.F.slot_list_pop PySem.F.type_list_pop mt_pop (qv 3))) (qss_cons (qs_setC (ys := ["_law_some", "_law_cell"]) (js := [4, 7]) rfl rfl (qi_range1 rfl X.z_range (qaB (qe_op op_mod (qv 7) qe_int) qa_nil)) (fun _ _ _ _ _ => qif_nil) (fun _ _ _ _ _ => (qe_ix (ix_listC (K := K) rfl) (qv 1) (qe_op op_mod (qe_op op_fdiv (qv 2) (qe_op op_add qe_int (qe_op op_mul qe_int (qv 0)))) (qe_callB (call_len_seqC (K := K) rfl) rfl X.z_len PySem.boot_len (qaN (qv 1) qa_nil))) (fun _ _ => rfl))) (qg_name (i := 8) sc_qform.nd rfl (Or.inl rfl)) rfl) (qss_one (qs_expr (qe_bm PySem.F.plainAttrs_list PySem.F.slot_list_append PySem.F.type_list_append mt_append (qv 5) (qaT (qe_tup (qaS (qe_ix ix_tup (qv 6) qe_int (fun _ _ => rfl)) (qaS (qe_ix ix_tup (qv 6) qe_int (fun _ _ => rfl)) (qaK (qe_call G_qterm hr rfl X.m_qterm X.F_qterm.kp X.b_qterm .nil pass0 (qaS (qe_ix ix_tup (qv 6) qe_int (fun _ _ => rfl)) (qaN (qv 8) (qaB (qe_op op_fdiv (qv 7) qe_int) qa_nil)))) qa_nil)))) qa_nil)))))) qss_nil))) (qss_cons (qs_set (i := 9) sc_qform.nd rfl (Or.inl rfl) (qe_op op_mod (qe_bm0 PySem.F.plainAttrs_list PySem.F.slot_list_pop PySem.F.type_list_pop mt_pop (qv 3)) (qe_op op_add (qe_callB call_len_seq rfl X.z_len PySem.boot_len (qaN (qv 5) qa_nil)) qe_int))) (qss_cons (qs_set (i := 5) sc_qform.nd rfl (Or.inl rfl) (qe_op op_cat (qe_slice sl_list (qv 5) (qo_some (qv 9)) qo_none) (qe_slice sl_list (qv 5) qo_none (qo_some (qv 9))))) (qss_one (qs_ret (qe_tup (qaN (qv 1) (qaS (qe_ix ix_tup (qe_ix ix_tup (qv 0) (qe_ix ix_list (qv 2) qe_int (fun _ _ => rfl)) (fun _ _ => rfl)) qe_int (fun _ _ => rfl)) (qaK (qe_callTy call_tuple_of rfl X.z_tuple PyProof.Rows.boot_tuple (qaE (qe_comp (ys := ["_law_signs_here"]) (js := [0]) rfl rfl (qi_list (qe_slice sl_list (qv 2) (qo_some qe_int) qo_none)) (fun _ _ _ _ _ => qif_nil) (fun _ _ _ _ _ => (qe_ix (ix_tupC (K := K) rfl) (qe_ix (ix_tupC (K := K) rfl) (qv 1) (qv 0) (fun _ _ => rfl)) qe_int (fun _ _ => rfl)))) qa_nil)) (qaK (qe_callTy call_tuple_of rfl X.z_tuple PyProof.Rows.boot_tuple (qaN (qv 5) qa_nil)) qa_nil)))))))))))), ?_⟩
  have gs : ∀ s ∈ ss, SgG s := fun s hs => gd s (ats.mem s hs)
  have ldu : (duesV ss).length <= 2 * at_.length := by rw [due_eq, <- ats.l]; exact duesF_len ss 0 gs
  refine ⟨_, rfl, _, rfl, a, l, us, sg, ss, at_, rfl, ha, hus, hl, ats, by omega, gd, fun D xs H1 s1 nD hD hxs => ?_⟩
  have lxs := hxs.len
  have hd1 := s1 _ _ hd
  have nDd : D ≠ d := fun z => by rw [z, hd] at nD; cases nD
  refine ⟨(by show 0 <= sizeLine; decide), fun r hr' => ?_⟩
  have s2 := same_new hr' (.lst [])
  have nrd : r ≠ d := fun z => by rw [z, hd1] at hr'; cases hr'
  have nrD : D ≠ r := fun z => by rw [<- z, hD] at hr'; cases hr'
  have s12 := s1.trans s2
  have hd2 := s2 _ _ hd1
  have hD2 := s2 _ _ hD
  have hr2 := upd_same (H := H1) (a := r) (o := .lst [])
  have r0 : H r = none := s1.free hr'
  have hxs2 : L2R (VlIs (upd H1 r (.lst []))) (vlF 0 ss) xs := hxs.imp fun _ _ h => VlIs.same (sameT s2) h
  generalize upd H1 r (.lst []) = H2 at s12 hd2 hD2 hr2 hxs2 ⊢
  have LST : ∀ b ∈ [d, r], ∃ ys, H2 b = some (.lst ys) := fun b hb => by
    simp at hb
    rcases hb with rfl | rfl
    · exact ⟨_, hd2⟩
    · exact ⟨_, hr2⟩
  refine ⟨_, rfl, D, rfl, ⟨_, SqL.of hD2⟩, for_list (K := K) (a := D) (xs := xs) (fun i σ H' => ∃ (ds : List Int) (rs : List Ru) (zs : List V) (x6 x7 x8 x9 : Option V), σ = [some (.ref a), some (.str nm), some (.ref l), some (.ref d), some (.ref D), some (.ref r), x6, x7, x8, x9] /\ Kp [d, r] H2 H' /\ H' d = some (.lst (ds.map V.int)) /\ ds.length + rs.length = cs.length /\ H' r = some (.lst zs) /\ L2R (RuIs H') rs zs /\ rs.map keyR = (((vlF 0 ss).take i).filter dueV).map keyV /\ ∀ q ∈ rs, RuG ss q)
    ⟨cs, [], [], none, none, none, none, rfl, Kp.refl _ _, hd2, rfl, hr2, .nil, rfl, (fun q h => nomatch h)⟩ (fun i σ H' _ ⟨_, _, _, _, _, _, _, _, kp, _⟩ => SqL.of (kp _ _ (by simp; exact ⟨nDd, nrD⟩) hD2)) ?_ ?_⟩
  · rintro i v σ H' hv ⟨ds, rs, zs, x6, x7, x8, x9, rfl, kp, hd', lds, hr1, hzs, hke, hdp⟩
    obtain ⟨⟨k, n, kd, b⟩, he, hve⟩ := hxs2.get hv
    have lzs := hzs.len
    obtain ⟨p, rfl, hp⟩ := VlIs.same (kp.T LST) hve
    have hp : H' p = some (.tup [.int k, .str n, .str kd, .int b]) := hp
    have take1 : ((vlF 0 ss).take (i + 1)).filter dueV = ((vlF 0 ss).take i).filter dueV ++ (if dueV (k, n, kd, b) = true then [(k, n, kd, b)] else []) := by
      rw [take_snocA he, List.filter_append]
      congr 1
      by_cases h : dueV (k, n, kd, b) = true
      · rw [if_pos h, List.filter_cons_of_pos h]; rfl
      · rw [if_neg h, List.filter_cons_of_neg h]; rfl
    refine ⟨_, rfl, p, _, 0, .int k, rfl, rfl, SqT.of hp, rfl, rfl, _, rfl, p, _, 3, .int b, rfl, rfl, SqT.of hp, rfl, rfl, rfl, _, rfl, ?_⟩
    show if dueV (k, n, kd, b) = true then _ else _
    by_cases hdue : dueV (k, n, kd, b) = true
    · rw [if_pos hdue]
      rw [if_pos hdue] at take1
      have cnt : rs.length + 1 <= (duesV ss).length := by
        have e1 := congrArg List.length hke
        rw [List.length_map, List.length_map] at e1
        have e2 : (((vlF 0 ss).take (i + 1)).filter dueV).length <= ((vlF 0 ss).filter dueV).length := ((List.take_sublist _ _).filter _).length_le
        rw [take1, List.length_append, List.length_singleton] at e2
        unfold duesV
        rw [List.length_map]
        omega
      obtain ⟨ds', c, rfl⟩ := snoc_of (l := ds) (by omega)
      rw [List.length_append, List.length_singleton] at lds
      have hd' : H' d = some (.lst (ds'.map V.int ++ [.int c])) := by rw [hd', List.map_append]; rfl
      refine ⟨_, rfl, .inl ⟨rfl, _, SqL.of hd'⟩, d, _, .int c, rfl, rfl, hd', by simp, ?_⟩
      dsimp only
      rw [List.dropLast_concat]
      have T1 : SameT H' (upd H' d (.lst (ds'.map V.int))) := sameT_lst hd'
      have kp1 : Kp [d, r] H2 (upd H' d (.lst (ds'.map V.int))) := kp.upd (by simp)
      have hd1' := upd_same (H := H') (a := d) (o := .lst (ds'.map V.int))
      have hr1' : upd H' d (.lst (ds'.map V.int)) r = some (.lst zs) := by rw [upd_ne nrd]; exact hr1
      have hzs1 : L2R (RuIs (upd H' d (.lst (ds'.map V.int)))) rs zs := hzs.imp fun _ _ h => RuIs.same T1 h
      have hp1 := T1 _ _ hp
      generalize upd H' d (.lst (ds'.map V.int)) = G1 at kp1 hd1' hr1' hzs1 hp1 ⊢
      have hD1 := kp1 _ _ (by simp; exact ⟨nDd, nrD⟩) hD2
      have hxs1 : L2R (VlIs G1) (vlF 0 ss) xs := hxs2.imp fun _ _ h => VlIs.same (kp1.T LST) h
      have c30 := Int.emod_nonneg c (show (3 : Int) ≠ 0 by decide)
      have c31 := Int.emod_lt_of_pos c (show (0 : Int) < 3 by decide)
      have hxp : 0 < xs.length := by have := lt_of_some hv; omega
      refine ⟨_, rfl, _, _, rfl, rfl, (by show (0 : Int) < 3; decide), _, rfl, by omega, by omega, fun E1 hE1 => ?_⟩
      refine comp_rng (fun j acc G => ∃ es : List Vl, es.length = j /\ L2R (VlIs G) es acc /\ Same G1 G /\ G E1 = some (.lst acc) /\ ∀ e ∈ es, e ∈ vlF 0 ss) (Nat.lt_of_le_of_lt (show (c % 3).toNat <= 1000 by omega) (by decide)) ⟨[], rfl, .nil, same_new hE1 _, upd_same, (fun e h => nomatch h)⟩ (fun j acc G ⟨es, l, r, _, d, _⟩ => ⟨d, by rw [r.len, l]⟩) ?_ ?_
      · rintro j m' acc G hj ⟨es, le, re, sm, dd, mes⟩ hm'
        have hpos : (0 : Int) < ((xs.length : Nat) : Int) := by omega
        have i0 := Int.emod_nonneg (c / (4 + 3 * (0 + (j : Int)))) (show ((xs.length : Nat) : Int) ≠ 0 by omega)
        have i1 := Int.emod_lt_of_pos (c / (4 + 3 * (0 + (j : Int)))) hpos
        obtain ⟨y, hy⟩ : ∃ y, atI xs (c / (4 + 3 * (0 + (j : Int))) % ((xs.length : Nat) : Int)) = some y /\ ∃ e', VlIs G e' y /\ e' ∈ vlF 0 ss := by
          obtain ⟨m, hm⟩ := Int.eq_ofNat_of_zero_le i0
          rw [hm]
          obtain ⟨y, hy⟩ : ∃ y, xs[m]? = some y := ⟨_, List.getElem?_eq_getElem (by omega)⟩
          obtain ⟨e', me', he'⟩ := hxs1.get hy
          exact ⟨y, atI_nat hy, e', VlIs.same (sameT sm) he', List.mem_of_getElem? me'⟩
        obtain ⟨hy1, e', he', me'⟩ := hy
        refine ⟨_, rfl, _, rfl, _, rfl, _, _, rfl, rfl, .inl ⟨by omega, by omega⟩, _, _, rfl, rfl, _, _, rfl, rfl, ⟨by omega, by omega⟩, _, rfl, D, _, rfl, .inl (SqL.of (sm _ _ hD1)), _, _, rfl, rfl, hpos, D, _, _, y, rfl, rfl, SqL.of (sm _ _ hD1), hy1, ?_⟩
        have TE := sameT_lst (ys := acc ++ [y]) dd
        exact cstep hj hm' dd ⟨es ++ [e'], by rw [List.length_append, le]; rfl, (re.imp fun _ _ h => VlIs.same TE h).snoc (VlIs.same TE he'), same_upd hE1 sm, upd_same, fun e h => (List.mem_append.mp h).elim (mes e) (fun h => by rw [List.mem_singleton.mp h]; exact me')⟩
      rintro acc G2 ⟨es, le, re, s3, hE2, mes⟩
      have lre := re.len
      have hp2 := s3 _ _ hp1
      have hr3 := s3 _ _ hr1'
      have k3 : ∀ e ∈ vlF 0 ss, e.2.2.1 ∈ kinds3 := fun e me => by
        obtain ⟨i', s', h1, _, p', hp', _, h4⟩ := vlF_mem ss 0 e me
        rw [h4]
        exact ((gs s' (List.mem_of_getElem? h1)).ok p' hp').2
      have hkd : kd ∈ kinds3 := k3 _ (List.mem_of_getElem? he)
      refine ⟨_, rfl, .inl ⟨rfl, _, SqL.of hr3⟩, _, rfl, p, _, 0, .int k, rfl, rfl, SqT.of hp2, rfl, _, rfl, p, _, 1, .str n, rfl, rfl, SqT.of hp2, rfl, _, rfl, p, _, 2, .str kd, rfl, rfl, SqT.of hp2, rfl, _, rfl, _, rfl, _, _, rfl, rfl, ⟨by decide, by decide⟩, EV ss, kd, E1, es, acc, _, rfl, hkd, hE2, re, by omega, (fun e me => ⟨k3 e (mes e me), e.2.2.2, mes e me⟩), fun t x G3 s4 ht dt => ⟨(by show 3 <= sizeLine; decide), fun t4 ht4 => ?_⟩⟩
      have s5 := same_new ht4 (.tup [.int k, .str n, x])
      have s35 := s3.trans (s4.trans s5)
      have hr5 := s35 _ _ hr1'
      refine ⟨r, zs, _, rfl, rfl, hr5, fitsL (by omega), ds', rs ++ [⟨k, n, t⟩], zs ++ [.ref t4], _, _, _, _, rfl, (kp1.same s35).upd (by simp), by rw [upd_ne nrd.symm]; exact s35 _ _ hd1', by rw [List.length_append, List.length_singleton]; omega, upd_same, ?_, ?_, ?_⟩
      · have TL := sameT_lst (ys := zs ++ [.ref t4]) hr5
        exact (hzs1.imp fun _ _ h => RuIs.same ((sameT s35).trans TL) h).snoc ⟨t4, x, rfl, TL _ _ upd_same, TmIs.same ((sameT s5).trans TL) t ht⟩
      · rw [take1, List.map_append, List.map_append, hke]
        rfl
      · intro q' hq'
        rcases List.mem_append.mp hq' with h | h
        · exact hdp q' h
        · rw [List.mem_singleton.mp h]; exact ⟨kd, hkd, ⟨b, List.mem_of_getElem? he⟩, dt⟩
    · rw [if_neg hdue]
      rw [if_neg hdue, List.append_nil] at take1
      exact ⟨ds, rs, zs, _, _, _, _, rfl, kp, hd', lds, hr1, hzs, by rw [take1]; exact hke, hdp⟩
  · rintro σ H' ⟨ds, rs, zs, x6, x7, x8, x9, rfl, kp, hd', lds, hr1, hzs, hke, hdp⟩
    rw [List.take_of_length_le (by omega)] at hke
    have hke : rs.map keyR = duesV ss := hke
    have lrs : rs.length = (duesV ss).length := by have := congrArg List.length hke; rwa [List.length_map] at this
    have lzs := hzs.len
    obtain ⟨ds', c, rfl⟩ := snoc_of (l := ds) (by omega)
    rw [List.length_append, List.length_singleton] at lds
    have hd' : H' d = some (.lst (ds'.map V.int ++ [.int c])) := by rw [hd', List.map_append]; rfl
    refine ⟨_, rfl, .inl ⟨rfl, _, SqL.of hd'⟩, d, _, .int c, rfl, rfl, hd', by simp, ?_⟩
    rw [List.dropLast_concat]
    have T1 : SameT H' (upd H' d (.lst (ds'.map V.int))) := sameT_lst hd'
    have kp1 : Kp [d, r] H2 (upd H' d (.lst (ds'.map V.int))) := kp.upd (by simp)
    have hd1' := upd_same (H := H') (a := d) (o := .lst (ds'.map V.int))
    have hr1' : upd H' d (.lst (ds'.map V.int)) r = some (.lst zs) := by rw [upd_ne nrd]; exact hr1
    have hzs1 : L2R (RuIs (upd H' d (.lst (ds'.map V.int)))) rs zs := hzs.imp fun _ _ h => RuIs.same T1 h
    generalize upd H' d (.lst (ds'.map V.int)) = G1 at kp1 hd1' hr1' hzs1 ⊢
    have hpos : (0 : Int) < ((zs.length : Nat) : Int) + 1 := by omega
    have t0 := Int.emod_nonneg c (show ((zs.length : Nat) : Int) + 1 ≠ 0 by omega)
    have t1 := Int.emod_lt_of_pos c hpos
    refine ⟨_, rfl, r, _, rfl, .inl (SqL.of hr1'), _, _, rfl, rfl, _, _, rfl, rfl, hpos, ?_⟩
    dsimp only
    generalize c % (((zs.length : Nat) : Int) + 1) = tn at t0 t1 ⊢
    obtain ⟨m, rfl⟩ := Int.eq_ofNat_of_zero_le t0
    refine ⟨_, rfl, _, rfl, _, rfl, r, _, rfl, SqL.of hr1', fun b1 hb1 => ?_⟩
    rw [cut_drop' zs m]
    have s3 := same_new hb1 (.lst (zs.drop m))
    refine ⟨_, rfl, _, rfl, _, rfl, r, _, rfl, SqL.of (s3 _ _ hr1'), fun b2 hb2 => ?_⟩
    rw [cut_take' zs m]
    have s4 := same_new hb2 (.lst (zs.take m))
    refine ⟨b1, b2, _, _, rfl, rfl, s4 _ _ upd_same, upd_same, fits2 (by rw [List.length_drop, List.length_take]; omega), fun b3 hb3 => ?_⟩
    have s5 := same_new hb3 (.lst (zs.drop m ++ zs.take m))
    have s35 := s3.trans (s4.trans s5)
    have hb3' := upd_same (H := upd (upd G1 b1 (.lst (zs.drop m))) b2 (.lst (zs.take m))) (a := b3) (o := .lst (zs.drop m ++ zs.take m))
    have hzs3 : L2R (RuIs (upd (upd (upd G1 b1 (.lst (zs.drop m))) b2 (.lst (zs.take m))) b3 (.lst (zs.drop m ++ zs.take m)))) (rs.drop m ++ rs.take m) (zs.drop m ++ zs.take m) := (l2r_drop m (hzs1.imp fun _ _ h => RuIs.same (sameT s35) h)).app (l2r_take m (hzs1.imp fun _ _ h => RuIs.same (sameT s35) h))
    generalize upd (upd (upd G1 b1 (.lst (zs.drop m))) b2 (.lst (zs.take m))) b3 (.lst (zs.drop m ++ zs.take m)) = G3 at s35 hb3' hzs3 ⊢
    have kpG : Kp [d, r] H2 G3 := kp1.same s35
    have T3 := kpG.T LST
    have ha3 : G3 a = some (.tup us) := T3 _ _ (s12 _ _ ha)
    have nlr : l ≠ r := fun z => by rw [z, r0] at hl; cases hl
    have hl3 : G3 l = some (.lst (atV at_)) := kpG _ _ (by simp; exact ⟨nld, nlr⟩) (s12 _ _ hl)
    have hus3 : L2R (SgIs G3) sg us := hus.imp fun _ _ h => SgIs.same ((sameT s12).trans T3) h
    obtain ⟨n0, hn0⟩ : ∃ n, at_[0]? = some n := ⟨_, List.getElem?_eq_getElem (by omega)⟩
    obtain ⟨sh0, hs0, hss0⟩ := ats.e 0 n0 hn0
    obtain ⟨v0, hv0, hsv0⟩ := L2R.at hus3 hs0
    obtain ⟨p0, da0, ua0, dus0, uus0, rfl, hp0, _⟩ := hsv0
    refine ⟨_, rfl, _, rfl, _, rfl, l, _, _, .int (n0 : Int), rfl, rfl, SqL.of hl3, atI_nat (j := 0) (by unfold atV; rw [List.getElem?_map, hn0]; rfl), a, _, _, .ref p0, rfl, rfl, SqT.of ha3, atI_nat hv0, p0, _, _, .str sh0.nm, rfl, rfl, SqT.of hp0, rfl, _, rfl, _, rfl, l, _, rfl, SqL.of hl3, fun b6 hb6 => ?_⟩
    rw [show cutV (atV at_) (some (1 : Int)) none = (atV at_).drop 1 from cut_drop' _ 1]
    have s6 := same_new hb6 (.lst ((atV at_).drop 1))
    have hb6' := upd_same (H := G3) (a := b6) (o := .lst ((atV at_).drop 1))
    have lss := ats.l
    have latV : ((atV at_).drop 1).length = at_.length - 1 := by unfold atV; rw [List.length_drop, List.length_map]
    refine ⟨b6, rfl, ⟨_, SqL.of hb6'⟩, fun E2 hE2 => ?_⟩
    refine comp_lstM (K := K) (ys := ((ss.drop 1).map Sg.nm).map V.str) (fitsL (by omega)) (by rw [List.length_map, List.length_map, List.length_drop]; omega) (SqL.of hb6') hE2 (fun j x y G hx hy sm Q' k' => ?_) fun G4 s7 hE4 => ?_
    · obtain ⟨n, hn⟩ : ∃ n, at_[1 + j]? = some n /\ x = .int (n : Int) := by
        unfold atV at hx
        rw [List.getElem?_drop, List.getElem?_map] at hx
        cases e : at_[1 + j]? with
        | none => rw [e] at hx; cases hx
        | some n => rw [e] at hx; exact ⟨n, rfl, (Option.some.inj hx).symm⟩
      obtain ⟨hn, rfl⟩ := hn
      obtain ⟨s', hs', hss'⟩ := ats.e (1 + j) n hn
      obtain ⟨v', hv', hsv'⟩ := L2R.at hus3 hs'
      obtain ⟨p', da', ua', dus', uus', rfl, hp', _⟩ := hsv'
      have ey : y = .str s'.nm := by
        rw [List.getElem?_map, List.getElem?_map, List.getElem?_drop, hss'] at hy
        exact (Option.some.inj hy).symm
      subst ey
      have sm' := s6.trans sm
      exact ⟨_, rfl, _, rfl, a, _, _, .ref p', rfl, rfl, SqT.of (sm' _ _ ha3), atI_nat hv', p', _, _, _, rfl, rfl, SqT.of (sm' _ _ hp'), rfl, k' G (Same.refl _)⟩
    refine ⟨E2, _, rfl, .inl ⟨SqL.of hE4, fun t1' ht1 => ?_⟩⟩
    have z1 := same_new ht1 (.tup (((ss.drop 1).map Sg.nm).map V.str))
    have sB := s6.trans (s7.trans z1)
    refine ⟨_, rfl, b3, _, rfl, .inl ⟨SqL.of (sB _ _ hb3'), fun t2' ht2 => ?_⟩⟩
    have z2 := same_new ht2 (.tup (zs.drop m ++ zs.take m))
    refine ⟨(by show 4 <= sizeLine; decide), fun t3' ht3 => ?_⟩
    have z3 := same_new ht3 (.tup [.str nm, .str sh0.nm, .ref t1', .ref t2'])
    have z23 := z2.trans z3
    have sC := sB.trans z23
    refine q (.ref t3') ⟨nm, sh0.nm, (ss.drop 1).map Sg.nm, rs.drop m ++ rs.take m⟩ ds' _ (fun b o n h => ?_) (sC _ _ (s35 _ _ hd1')) (by omega) (by omega) ?_ rfl ?_
    · have nb : b ≠ r := fun z => by rw [z, r0] at h; cases h
      exact sC _ _ (kpG b o (by simp; exact ⟨by simpa using n, nb⟩) (s12 _ _ h))
    · exact ⟨t3', t1', t2', _, rfl, upd_same, z23 _ _ upd_same, z3 _ _ upd_same, hzs3.imp fun _ _ h => RuIs.same (sameT sC) h⟩
    · refine ⟨?_, (by show ((rs.drop m ++ rs.take m).map keyR).Perm _; rw [List.map_append, List.map_drop, List.map_take, hke]; exact (List.perm_append_comm).trans (by rw [List.take_append_drop])), fun r' hr' => ?_⟩
      · show ss.map Sg.nm = sh0.nm :: (ss.drop 1).map Sg.nm
        cases ss with
        | nil => simp at hss0
        | cons x xs' => simp at hss0; subst hss0; rfl
      · rcases List.mem_append.mp hr' with h | h
        · exact hdp r' (List.mem_of_mem_drop h)
        · exact hdp r' (List.mem_of_mem_take h)
end
end K12
namespace K12
open PySem L2
open TM 
def ssOf (sg : List Sg) (at_ : List Nat) : List Sg := at_.map fun n => sg.getD n ⟨"", [], []⟩
theorem ssOf_at {sg : List Sg} {at_ : List Nat} (h : ∀ n ∈ at_, n < sg.length) : AtS sg at_ (ssOf sg at_) := by
  refine ⟨by unfold ssOf; rw [List.length_map], fun i n hn => ?_⟩
  have hl := h n (List.mem_of_getElem? hn)
  refine ⟨sg[n], List.getElem?_eq_getElem hl, ?_⟩
  unfold ssOf
  rw [List.getElem?_map, hn]
  show some (sg.getD n _) = _
  rw [List.getD_eq_getElem?_getD, List.getElem?_eq_getElem hl]
  rfl
structure FormG (g : Gr) (f : Fm) (ss : List Sg) : Prop where
  mem : ∀ s ∈ ss, s ∈ g.sg
  fm : FmG f ss
  l1 : 1 <= ss.length
  l4 : ss.length <= 4
structure GrG (g : Gr) : Prop where
  nmf : ∀ f ∈ g.fm, NmOk f.nm
  sg : SgsG g.sg
  fm : ∀ f ∈ g.fm, ∃ ss, FormG g f ss
  nd : (g.fm.map Fm.nm).Nodup
  tx : ∀ f ∈ g.fm, TxOk f.nm
  l10 : g.fm.length <= 10
  r0 : ∃ f ∈ g.fm, f.ru ≠ []
def spGram : Sp := fun vs H Q _ => ∃ (d : Addr) (cs : List Int), vs = [.ref d] /\ H d = some (.lst (cs.map V.int)) /\ cs.length = 90 /\ ∀ (v : V) (g : Gr) (H' : Hp), Kp [d] H H' -> GrIs H' g v -> GrG g -> Q v H'
theorem fnames_nd {c : Int} {fm : List Fm} (h : ∀ (j : Nat) s, fm[j]? = some s -> s.nm = wrd c j) (l : fm.length <= 12) : (fm.map Fm.nm).Nodup := by
  refine List.pairwise_iff_getElem.mpr fun i j hi hj hlt he => ?_
  rw [List.length_map] at hi hj
  rw [List.getElem_map, List.getElem_map, h i _ (List.getElem?_eq_getElem hi), h j _ (List.getElem?_eq_getElem hj)] at he
  have := wrd_inj (by omega) (by omega) (by omega) (by omega) he
  omega
section
variable {P : Program} {w : World} {K : PySem.W.Frag} {mg : Str -> Option Value} {base : Heap} {T : Adr}
theorem ok_gram (X : Tx K w mg T) : FnOk P w K mg base CX0 4 T.qgrammar T.d_qgrammar ["_law_deck_here"] spGram := by
  have G_qsigns := (ok_signs (P := P) (w := w) (base := base) X).mono (show 2 <= 3 by decide)
  have G_qword := (ok_word (P := P) (w := w) (base := base) X).mono (show 1 <= 3 by decide)
  have G_qform := ok_form (P := P) (w := w) (base := base) X
  refine X.F_qgrammar.okQ sc_qgrammar (fun vs H Q E h => ?_) (fun cdv A outer s H vs Q E hr h => ?_)
  · obtain ⟨_, _, rfl, _⟩ := h
    rfl
  obtain ⟨d, cs, rfl, hd, l90, q⟩ := h
  refine ⟨_, (qss_cons (qs_set (i := 1) sc_qgrammar.nd rfl (Or.inl rfl) (qe_bm0 PySem.F.plainAttrs_list PySem.F.slot_list_pop PySem.F.type_list_pop mt_pop (qv 0))) (qss_cons (qs_set (i := 2) sc_qgrammar.nd rfl (Or.inr rfl) (qe_call G_qsigns hr rfl X.m_qsigns X.F_qsigns.kp X.b_qsigns .nil pass0 (qaN (qv 0) (qaN (qv 1) qa_nil)))) (qss_cons (qs_set (i := 1) sc_qgrammar.nd rfl (Or.inl rfl) (qe_ix ix_list (qe_lst (qaN (qv 1) (qaS (qe_ix ix_list (qv 0) qe_int (fun _ _ => rfl)) qa_nil))) (qe_op op_mod (qe_bm0 PySem.F.plainAttrs_list PySem.F.slot_list_pop PySem.F.type_list_pop mt_pop (qv 0)) qe_int) (fun _ _ => rfl))) (qss_cons (qs_set (i := 3) sc_qgrammar.nd rfl (Or.inl rfl) qe_int) (qss_cons (qs_set (i := 4) sc_qgrammar.nd rfl (Or.inl rfl) (qe_lst qa_nil)) (qss_cons (qs_for PassesOwn.never rfl (qi_range1 rfl X.z_range (qaS (qe_ix ix_list (qe_lst (qaC qe_int (qaC qe_int (qaC qe_int (qaC qe_int (qaC qe_int (qaC qe_int (qaC qe_int (qaC qe_int (qaC qe_int (qaC qe_int (qaC qe_int (qaC qe_int qa_nil))))))))))))) (qe_op op_mod (qe_bm0 PySem.F.plainAttrs_list PySem.F.slot_list_pop PySem.F.type_list_pop mt_pop (qv 0)) qe_int) (fun _ _ => rfl)) qa_nil)) (qg_name (i := 5) sc_qgrammar.nd rfl (Or.inl rfl)) (qss_cons (qs_set (i := 6) sc_qgrammar.nd rfl (Or.inr rfl) (qe_bm0 PySem.F.plainAttrs_list PySem.F.slot_list_pop PySem.F.type_list_pop mt_pop (qv 0))) (qss_cons (qs_setC (ys := ["_law_signs_here", "_law_cell"]) (js := [2, 6]) rfl rfl (qi_range1 rfl X.z_range (qaB (qe_op op_add qe_int (qe_callB (call_min2 rfl) rfl X.z_min PyProof.Rows.boot_min (qaB (qe_op op_mod (qv 6) qe_int) (qaN (qv 3) qa_nil)))) qa_nil)) (fun _ _ _ _ _ => qif_nil) (fun _ _ _ _ _ => (qe_op op_mod (qe_op op_fdiv (qv 2) (qe_op op_add qe_int (qe_op op_mul qe_int (qv 0)))) (qe_callB (call_len_seqC (K := K) rfl) rfl X.z_len PySem.boot_len (qaN (qv 1) qa_nil)))) (qg_name (i := 7) sc_qgrammar.nd rfl (Or.inl rfl)) rfl) (qss_cons (qs_if (qt_cmpR op_eq (qv 5) qe_int (nomark _)) (qss_one (qs_asg qe_int (qg_sub (qv 7) qe_int set_list))) qss_nil) (qss_cons (qs_set (i := 3) sc_qgrammar.nd rfl (Or.inl rfl) (qe_op op_sub (qe_op op_add (qv 3) qe_int) (qe_callB call_len_seq rfl X.z_len PySem.boot_len (qaN (qv 7) qa_nil)))) (qss_one (qs_expr (qe_bm PySem.F.plainAttrs_list PySem.F.slot_list_append PySem.F.type_list_append mt_append (qv 4) (qaK (qe_call G_qform hr rfl X.m_qform X.F_qform.kp X.b_qform .nil pass0 (qaN (qv 2) (qaK (qe_call G_qword hr rfl X.m_qword X.F_qword.kp X.b_qword .nil pass0 (qaN (qv 1) (qaN (qv 5) qa_nil))) (qaN (qv 7) (qaN (qv 0) qa_nil))))) qa_nil))))))))) (qss_one (qs_ret (qe_tup (qaN (qv 2) (qaK (qe_callTy call_tuple_of rfl X.z_tuple PyProof.Rows.boot_tuple (qaN (qv 4) qa_nil)) qa_nil))))))))))), ?_⟩
  obtain ⟨cs0, w1, rfl⟩ := snoc_of (l := cs) (by omega)
  rw [List.length_append, List.length_singleton] at l90
  have hd : H d = some (.lst (cs0.map V.int ++ [.int w1])) := by rw [hd, List.map_append]; rfl
  refine ⟨_, rfl, .inl ⟨rfl, _, SqL.of hd⟩, d, _, .int w1, rfl, rfl, hd, by simp, ?_⟩
  dsimp only
  rw [List.dropLast_concat]
  have k0 : Kp [d] H (upd H d (.lst (cs0.map V.int))) := (Kp.refl _ _).upd (by simp)
  have hd0 := upd_same (H := H) (a := d) (o := .lst (cs0.map V.int))
  generalize upd H d (.lst (cs0.map V.int)) = H0 at k0 hd0 ⊢
  refine ⟨_, rfl, _, rfl, d, cs0, w1, rfl, hd0, by omega, by omega, fun a us sg cs1 H1 k1' hd1 lc1 lc90 ha hus sgg => ?_⟩
  have k1 := k0.trans k1'
  have lus := hus.len
  obtain ⟨cs2, c1, rfl⟩ := snoc_of (l := cs1) (by omega)
  rw [List.length_append, List.length_singleton] at lc1 lc90
  have hd1 : H1 d = some (.lst (cs2.map V.int ++ [.int c1])) := by rw [hd1, List.map_append]; rfl
  obtain ⟨c9, hc9⟩ : ∃ c9 : Int, (cs2.map V.int ++ [.int c1])[1]? = some (.int c9) := by
    obtain ⟨x, hx⟩ := some_of_lt (xs := cs2) (i := 1) (by omega)
    exact ⟨x, by rw [List.getElem?_append_left (by rw [List.length_map]; omega), List.getElem?_map, hx]; rfl⟩
  refine ⟨_, rfl, _, rfl, d, _, 1, .int c9, rfl, rfl, SqL.of hd1, atI_nat (j := 1) hc9, (by show 2 <= sizeLine; decide), fun a9 h9 => ?_⟩
  have s9 := same_new h9 (.lst [.int w1, .int c9])
  have n9 : a9 ≠ d := fun z => by rw [z, hd1] at h9; cases h9
  refine ⟨_, rfl, .inl ⟨rfl, _, SqL.of (s9 _ _ hd1)⟩, d, _, .int c1, rfl, rfl, s9 _ _ hd1, by simp, ?_⟩
  rw [List.dropLast_concat]
  obtain ⟨w0, hw0⟩ : ∃ w0 : Int, atI [V.int w1, V.int c9] (c1 % 2) = some (.int w0) := by
    have : c1 % 2 = 0 \/ c1 % 2 = 1 := by omega
    rcases this with e | e <;> rw [e] <;> exact ⟨_, rfl⟩
  refine ⟨_, _, rfl, rfl, (by show (0 : Int) < 2; decide), a9, _, _, .int w0, rfl, rfl, SqL.of (by rw [upd_ne n9]; exact upd_same), hw0, ?_⟩
  have T0 : SameT (upd H1 a9 (.lst [.int w1, .int c9])) (upd (upd H1 a9 (.lst [.int w1, .int c9])) d (.lst (cs2.map V.int))) := sameT_lst (s9 _ _ hd1)
  have T1 := (sameT s9).trans T0
  have k2 : Kp [d] H (upd (upd H1 a9 (.lst [.int w1, .int c9])) d (.lst (cs2.map V.int))) := (k1.same s9).upd (by simp)
  have hd2 := upd_same (H := upd H1 a9 (.lst [.int w1, .int c9])) (a := d) (o := .lst (cs2.map V.int))
  have ha2 := T1 _ _ ha
  have hus2 : L2R (SgIs (upd (upd H1 a9 (.lst [.int w1, .int c9])) d (.lst (cs2.map V.int)))) sg us := hus.imp fun _ _ h => SgIs.same T1 h
  generalize upd (upd H1 a9 (.lst [.int w1, .int c9])) d (.lst (cs2.map V.int)) = H2 at k2 hd2 ha2 hus2 ⊢
  refine ⟨(by show 0 <= sizeLine; decide), fun r hr' => ?_⟩
  have s3 := same_new hr' (.lst [])
  have nrd : r ≠ d := fun z => by rw [z, hd2] at hr'; cases hr'
  refine ⟨(by show 12 <= sizeLine; decide), fun a5 h5 => ?_⟩
  have s4 := same_new h5 (.lst [.int 1, .int 2, .int 3, .int 4, .int 5, .int 6, .int 7, .int 8, .int 9, .int 10, .int 10, .int 10])
  have ha5 := upd_same (H := upd H2 r (.lst [])) (a := a5) (o := .lst [.int 1, .int 2, .int 3, .int 4, .int 5, .int 6, .int 7, .int 8, .int 9, .int 10, .int 10, .int 10])
  have hr5 := s4 _ _ (upd_same (H := H2) (a := r) (o := .lst []))
  have s34 := s3.trans s4
  have hd5 := s34 _ _ hd2
  have n5 : a5 ≠ d := fun z => by rw [z, s3 _ _ hd2] at h5; cases h5
  have k5 := k2.same s34
  have ha5' := s34 _ _ ha2
  have hus5 : L2R (SgIs (upd (upd H2 r (.lst [])) a5 (.lst [.int 1, .int 2, .int 3, .int 4, .int 5, .int 6, .int 7, .int 8, .int 9, .int 10, .int 10, .int 10]))) sg us := hus2.imp fun _ _ h => SgIs.same (sameT s34) h
  have r0 : H r = none := k2.free hr' (by simpa using nrd)
  generalize upd (upd H2 r (.lst [])) a5 (.lst [.int 1, .int 2, .int 3, .int 4, .int 5, .int 6, .int 7, .int 8, .int 9, .int 10, .int 10, .int 10]) = H5 at k5 ha5 hr5 hd5 ha5' hus5 ⊢
  obtain ⟨cs3, c3, rfl⟩ := snoc_of (l := cs2) (by omega)
  rw [List.length_append, List.length_singleton] at lc1 lc90
  have hd5 : H5 d = some (.lst (cs3.map V.int ++ [.int c3])) := by rw [hd5, List.map_append]; rfl
  obtain ⟨m, hm, m1, m10⟩ : ∃ m : Int, atI [V.int 1, V.int 2, V.int 3, V.int 4, V.int 5, V.int 6, V.int 7, V.int 8, V.int 9, V.int 10, V.int 10, V.int 10] (c3 % 12) = some (.int m) /\ 1 <= m /\ m <= 10 := by
    have : c3 % 12 = 0 \/ c3 % 12 = 1 \/ c3 % 12 = 2 \/ c3 % 12 = 3 \/ c3 % 12 = 4 \/ c3 % 12 = 5 \/ c3 % 12 = 6 \/ c3 % 12 = 7 \/ c3 % 12 = 8 \/ c3 % 12 = 9 \/ c3 % 12 = 10 \/ c3 % 12 = 11 := by omega
    rcases this with e | e | e | e | e | e | e | e | e | e | e | e <;> rw [e] <;> exact ⟨_, rfl, by decide, by decide⟩
  refine ⟨_, rfl, .inl ⟨rfl, _, SqL.of hd5⟩, d, _, .int c3, rfl, rfl, hd5, by simp, ?_⟩
  rw [List.dropLast_concat]
  refine ⟨_, _, rfl, rfl, (by show (0 : Int) < 12; decide), a5, _, _, .int m, rfl, rfl, SqL.of (by rw [upd_ne n5]; exact ha5), hm, _, rfl, by omega, by omega, ?_⟩
  have T5 : SameT H5 (upd H5 d (.lst (cs3.map V.int))) := sameT_lst hd5
  have k6 : Kp [d] H (upd H5 d (.lst (cs3.map V.int))) := k5.upd (by simp)
  have hd6 := upd_same (H := H5) (a := d) (o := .lst (cs3.map V.int))
  have hr6 : upd H5 d (.lst (cs3.map V.int)) r = some (.lst []) := by rw [upd_ne nrd]; exact hr5
  have ha6 := T5 _ _ ha5'
  have hus6 : L2R (SgIs (upd H5 d (.lst (cs3.map V.int)))) sg us := hus5.imp fun _ _ h => SgIs.same T5 h
  generalize upd H5 d (.lst (cs3.map V.int)) = H6 at k6 hd6 hr6 ha6 hus6 ⊢
  have LST : ∀ b ∈ [d, r], ∃ ys, H6 b = some (.lst ys) := fun b hb => by
    simp at hb
    rcases hb with rfl | rfl
    · exact ⟨_, hd6⟩
    · exact ⟨_, hr6⟩
  have l1sg := sgg.l1
  have l6sg := sgg.l6
  refine for_range (n := m.toNat) (fun i σ H' => ∃ (ds : List Int) (fm : List Fm) (zs : List V) (rm : Int) (x5 x6 x7 : Option V), σ = [some (.ref d), some (.int w0), some (.ref a), some (.int rm), some (.ref r), x5, x6, x7] /\ Kp [d, r] H6 H' /\ H' d = some (.lst (ds.map V.int)) /\ (90 : Int) <= ds.length + 4 * i + 2 * (8 - rm) + 11 /\ ds.length <= 90 /\ 0 <= rm /\ rm <= 8 /\ H' r = some (.lst zs) /\ L2R (FmIs H') fm zs /\ fm.length = i /\ (∀ f ∈ fm, ∃ ss, (∀ s ∈ ss, s ∈ sg) /\ FmG f ss /\ 1 <= ss.length /\ ss.length <= 4) /\ (∀ (j : Nat) f, fm[j]? = some f -> f.nm = wrd w0 j) /\ (0 < i -> ∃ f ∈ fm, f.ru ≠ []))
    ⟨cs3, [], [], 8, none, none, none, rfl, Kp.refl _ _, hd6, by omega, by omega, by decide, by decide, hr6, .nil, rfl, (fun f hf => nomatch hf), (fun j f h => by simp at h), (fun h => absurd h (Nat.lt_irrefl 0))⟩ ?_ ?_
  · rintro i σ H' hi ⟨ds, fm, zs, rm, x5, x6, x7, rfl, kp, hd', lds, l90', rm0, rm8, hr1, hzs, lfm, gfm, nms, r00⟩
    have hi10 : i < 10 := by omega
    have lzs := hzs.len
    obtain ⟨ds', c, rfl⟩ := snoc_of (l := ds) (by omega)
    rw [List.length_append, List.length_singleton] at lds l90'
    have hd' : H' d = some (.lst (ds'.map V.int ++ [.int c])) := by rw [hd', List.map_append]; rfl
    refine ⟨_, rfl, .inl ⟨rfl, _, SqL.of hd'⟩, d, _, .int c, rfl, rfl, hd', by simp, ?_⟩
    dsimp only
    rw [List.dropLast_concat]
    have T1 : SameT H' (upd H' d (.lst (ds'.map V.int))) := sameT_lst hd'
    have kp1 : Kp [d, r] H6 (upd H' d (.lst (ds'.map V.int))) := kp.upd (by simp)
    have hd1' := upd_same (H := H') (a := d) (o := .lst (ds'.map V.int))
    have hr1' : upd H' d (.lst (ds'.map V.int)) r = some (.lst zs) := by rw [upd_ne nrd]; exact hr1
    have hzs1 : L2R (FmIs (upd H' d (.lst (ds'.map V.int)))) fm zs := hzs.imp fun _ _ h => FmIs.same T1 h
    generalize upd H' d (.lst (ds'.map V.int)) = G1 at kp1 hd1' hr1' hzs1 ⊢
    have ha1 := kp1.T LST _ _ ha6
    have c40 := Int.emod_nonneg c (show (4 : Int) ≠ 0 by decide)
    have c41 := Int.emod_lt_of_pos c (show (0 : Int) < 4 by decide)
    obtain ⟨nb, hnb, nb0, nb3, nbr⟩ : ∃ nb : Int, (if rm < c % 4 then rm else c % 4) = nb /\ 0 <= nb /\ nb <= 3 /\ nb <= rm := ⟨_, rfl, by split <;> omega, by split <;> omega, by split <;> omega⟩
    refine ⟨_, rfl, _, _, rfl, rfl, (by show (0 : Int) < 4; decide), _, rfl, _, _, rfl, _, _, rfl, rfl, ?_⟩
    rw [hnb]
    refine ⟨_, rfl, by omega, by omega, fun E1 hE1 => ?_⟩
    have nE : E1 ≠ d := fun z => by rw [z, hd1'] at hE1; cases hE1
    have nEr : E1 ≠ r := fun z => by rw [z, hr1'] at hE1; cases hE1
    refine comp_rng (fun j acc G => ∃ at_ : List Nat, at_.length = j /\ acc = atV at_ /\ (∀ n ∈ at_, n < sg.length) /\ Same G1 G /\ G E1 = some (.lst acc)) (Nat.lt_of_le_of_lt (show (1 + nb).toNat <= 1000 by omega) (by decide)) ⟨[], rfl, rfl, (fun n h => nomatch h), same_new hE1 _, upd_same⟩ (fun j acc G ⟨at_, l, e, _, _, d⟩ => ⟨d, by rw [e]; unfold atV; rw [List.length_map, l]⟩) ?_ ?_
    · rintro j m' acc G hj ⟨at_, le, ea, ab, sm, dd⟩ hm'
      have hpos : (0 : Int) < ((us.length : Nat) : Int) := by omega
      have i0 := Int.emod_nonneg (c / (7 + 11 * (0 + (j : Int)))) (show ((us.length : Nat) : Int) ≠ 0 by omega)
      have i1 := Int.emod_lt_of_pos (c / (7 + 11 * (0 + (j : Int)))) hpos
      obtain ⟨n, hn⟩ := Int.eq_ofNat_of_zero_le i0
      refine ⟨_, rfl, _, rfl, _, _, rfl, rfl, .inl ⟨by omega, by omega⟩, _, _, rfl, rfl, _, _, rfl, rfl, ⟨by omega, by omega⟩, _, rfl, a, _, rfl, .inr (SqT.of (sm _ _ ha1)), _, _, rfl, rfl, hpos, ?_⟩
      dsimp only
      rw [hn]
      refine cstep hj hm' dd ⟨at_ ++ [n], by rw [List.length_append, le]; rfl, by rw [ea]; unfold atV; rw [List.map_append]; rfl, fun x hx => ?_, same_upd hE1 sm, upd_same⟩
      rcases List.mem_append.mp hx with h | h
      · exact ab x h
      · rw [List.mem_singleton.mp h]; omega
    rintro acc G2 ⟨at_, lat, rfl, ab, s2, hE2⟩
    unfold gName tNext
    dsimp only
    refine seq_join (fun σ' G3 => ∃ (at2 : List Nat) (x5 x6 : Option V), σ' = [some (.ref d), some (.int w0), some (.ref a), some (.int rm), some (.ref r), some (.int (i : Int)), x6, some (.ref E1)] /\ at2.length = at_.length /\ (∀ n ∈ at2, n < sg.length) /\ (i = 0 -> at2[0]? = some 0) /\ G3 E1 = some (.lst (atV at2)) /\ Kp [d, r] H6 G3 /\ G3 d = some (.lst (ds'.map V.int)) /\ G3 r = some (.lst zs) /\ L2R (FmIs G3) fm zs) ?_ ?_
    · rintro σ' G3 ⟨at2, x5, x6, rfl, l2, ab2, at0, hE3, kp3, hd3, hr3, hzs3⟩
      have T3 := kp3.T LST
      have ha3 := T3 _ _ ha6
      have hus3 : L2R (SgIs G3) sg us := hus6.imp fun _ _ h => SgIs.same T3 h
      have latv : (atV at2).length = at2.length := by unfold atV; rw [List.length_map]
      refine ⟨_, rfl, _, _, rfl, rfl, _, rfl, E1, _, rfl, .inl (SqL.of hE3), _, _, rfl, rfl, ?_⟩
      refine ⟨_, rfl, .inl ⟨rfl, _, SqL.of hr3⟩, _, rfl, _, rfl, _, rfl, w0, _, rfl, fun Gw sw => ⟨_, rfl, _, rfl, a, E1, d, us, sg, ssOf sg at2, at2, _, ds', rfl, sw _ _ ha3, hus3.imp fun _ _ h => SgIs.same (sameT sw) h, sw _ _ hE3, ssOf_at ab2, by omega, by omega, sgg.g, nE, sw _ _ hd3, by omega, by omega, fun v f cs' G4 k4 hd4 l4 l90'' hf fnm fg => ?_⟩⟩
      have hr4 := k4 r _ (by simpa using nrd) (sw _ _ hr3)
      have T4 : SameT G3 G4 := (sameT sw).trans (k4.T fun b hb => by
        have : b = d := by simpa using hb
        rw [this]
        exact ⟨_, sw _ _ hd3⟩)
      have TL := sameT_lst (ys := zs ++ [v]) hr4
      refine ⟨r, zs, v, rfl, rfl, hr4, fitsL (by omega), cs', fm ++ [f], zs ++ [v], rm + 1 - ((atV at2).length : Int), _, _, _, rfl, ((kp3.same sw).trans (k4.mono (by simp))).upd (by simp), by rw [upd_ne nrd.symm]; exact hd4, by omega, by omega, by omega, by omega, upd_same, (hzs3.imp fun _ _ h => FmIs.same (T4.trans TL) h).snoc (FmIs.same TL hf), by rw [List.length_append, lfm]; rfl, fun f' hf' => ?_, fun j f' hf' => ?_, fun _ => ?_⟩
      · rcases List.mem_append.mp hf' with h | h
        · exact gfm f' h
        · rw [List.mem_singleton.mp h]
          have ls : (ssOf sg at2).length = at2.length := (ssOf_at ab2).l
          exact ⟨ssOf sg at2, (ssOf_at ab2).mem, fg, by omega, by omega⟩
      · by_cases hj : j < fm.length
        · rw [List.getElem?_append_left hj] at hf'
          exact nms j f' hf'
        · rw [List.getElem?_append_right (by omega)] at hf'
          have hj0 : j - fm.length = 0 := by
            rcases Nat.eq_zero_or_pos (j - fm.length) with h | h
            · exact h
            · rw [List.getElem?_eq_none (by simp; omega)] at hf'; cases hf'
          rw [hj0] at hf'
          cases hf'
          have : j = i := by omega
          subst this
          exact fnm
      · by_cases hi0 : 0 < i
        · obtain ⟨f', m1, m2⟩ := r00 hi0
          exact ⟨f', List.mem_append.mpr (.inl m1), m2⟩
        · refine ⟨f, by simp, fun hnil => ?_⟩
          have hz := fg.ru.length_eq
          rw [hnil, due_eq] at hz
          obtain ⟨s0, e1, e2⟩ := (ssOf_at ab2).e 0 0 (at0 (by omega))
          have hu0 := sgg.u0 s0 e1
          cases hss : ssOf sg at2 with
          | nil => rw [hss] at e2; simp at e2
          | cons x rr =>
            rw [hss] at e2 hz
            simp at e2
            subst e2
            rw [duesF, if_pos rfl, List.length_append, List.length_map] at hz
            simp at hz
            omega
    · intro F hF
      have base3 : Kp [d, r] H6 G2 := kp1.same s2
      have e0 : (0 + (i : Int)) = (i : Int) := by omega
      refine ⟨_, rfl, rfl, _, rfl, iteDd (fun _ => ?_) (fun hne => ?_)⟩
      · obtain ⟨n0, at3, rfl⟩ : ∃ n0 at3, at_ = n0 :: at3 := by
          cases at_ with
          | nil => simp at lat; omega
          | cons x y => exact ⟨x, y, rfl⟩
        have TE := sameT_lst (ys := atV (0 :: at3)) hE2
        refine ⟨_, rfl, E1, _, 0, 0, rfl, rfl, hE2, (by unfold ixN; rw [if_pos (by decide), if_pos (by unfold atV; simp)]; rfl), ?_⟩
        rw [e0]
        refine hF _ _ ⟨0 :: at3, none, _, rfl, rfl, fun n hn => ?_, (fun _ => rfl), upd_same, ?_, by rw [upd_ne nE.symm]; exact s2 _ _ hd1', by rw [upd_ne nEr.symm]; exact s2 _ _ hr1', hzs1.imp fun _ _ h => FmIs.same ((sameT s2).trans TE) h⟩
        · rcases List.mem_cons.mp hn with rfl | h
          · omega
          · exact ab n (by simp [h])
        · intro b o n h
          have nb' : b ≠ E1 := fun z => by
            have := kp1 b o n h
            rw [z, hE1] at this
            cases this
          rw [upd_ne nb']
          exact base3 b o n h
      · rw [e0]
        exact hF _ _ ⟨at_, none, _, rfl, rfl, ab, (fun z => absurd (by rw [z]; rfl) hne), hE2, base3, s2 _ _ hd1', s2 _ _ hr1', hzs1.imp fun _ _ h => FmIs.same (sameT s2) h⟩
  · rintro σ H' ⟨ds, fm, zs, rm, x5, x6, x7, rfl, kp, hd', lds, l90', rm0, rm8, hr1, hzs, lfm, gfm, nms, r00⟩
    have lzs := hzs.len
    refine ⟨_, rfl, _, rfl, r, _, rfl, .inl ⟨SqL.of hr1, fun t1 ht1 => ⟨(by show 2 <= sizeLine; decide), fun t2 ht2 => ?_⟩⟩⟩
    have z1 := same_new ht1 (.tup zs)
    have z2 := same_new ht2 (.tup [.ref a, .ref t1])
    have z12 := z1.trans z2
    have T6 := (kp.T LST).trans (sameT z12)
    refine q (.ref t2) ⟨sg, fm⟩ _ (fun b o n h => ?_) ⟨t2, a, t1, us, zs, rfl, upd_same, T6 _ _ ha6, hus6.imp fun _ _ h => SgIs.same T6 h, z2 _ _ upd_same, hzs.imp fun _ _ h => FmIs.same (sameT z12) h⟩ ⟨fun f hf => by obtain ⟨j, hj⟩ := List.getElem?_of_mem hf; rw [nms j f hj]; exact wrd_ok _ _, sgg, fun f hf => ?_, fnames_nd nms (by show fm.length <= 12; omega), fun f hf => ?_, by show fm.length <= 10; omega, r00 (by omega)⟩
    · have nb : b ≠ r := fun z => by rw [z, r0] at h; cases h
      exact z12 _ _ (kp b o (by simp; exact ⟨by simpa using n, nb⟩) (k6 b o n h))
    · obtain ⟨ss, h1, h2, h3, h4⟩ := gfm f hf
      exact ⟨ss, h1, h2, h3, h4⟩
    · obtain ⟨j, hj⟩ := List.getElem?_of_mem hf
      rw [nms j f hj]
      exact wrd_tx _ _
end
end K12
namespace K12
open PySem L2
open TM 
def spInner : Sp := fun vs H Q _ => ∃ (B : Hp) (t : Tm) (v : V), vs = [v] /\ SameT B H /\ TmIs B t v /\ ∀ b xs H', Same H H' -> H' b = some (.tup xs) -> xs.length <= 1000 -> TmsIs B (inner t) xs -> Q (.ref b) H'
def spParts (n : Nat) : Sp := fun vs H Q _ => ∃ (t : Tm) (v : V), vs = [v] /\ TmIs H t v /\ depth t <= n /\ ∀ H', Same H H' -> Q (.int (parts t)) H'
def spDepth (n : Nat) : Sp := fun vs H Q _ => ∃ (t : Tm) (v : V), vs = [v] /\ TmIs H t v /\ depth t <= n /\ ∀ H', Same H H' -> Q (.int (depth t)) H'
def spNamed (n : Nat) : Sp := fun vs H Q _ => ∃ (t : Tm) (v : V), vs = [v] /\ TmIs H t v /\ depth t <= n /\ parts t <= 1000 /\ ∀ p ys H', H p = none -> Same H H' -> H' p = some (.lst ys) -> IsPs H' (named t) ys -> Q (.ref p) H'
section
variable {P : Program} {w : World} {K : PySem.W.Frag} {mg : Str -> Option Value} {base : Heap} {T : Adr}
theorem ok_inner (X : Tx K w mg T) : FnOk P w K mg base CX0 1 T.qinnerterms T.d_qinnerterms ["term"] spInner := by
  refine X.F_qinnerterms.okQ sc_qinnerterms (fun vs H Q E h => ?_) (fun cdv A outer s H vs Q E hr h => ?_)
  · obtain ⟨_, _, _, rfl, _⟩ := h
    rfl
  obtain ⟨B, t, v, rfl, sB, hB, q⟩ := h
  have hv := TmIs.same sB t hB
  refine ⟨_, (qss_cons (qs_if (qt_cmpR op_eq (qe_ix ix_tup (qv 0) qe_int (fun _ _ => rfl)) qe_str (nomark _)) (qss_one (qs_ret (qe_ix ix_tup (qv 0) qe_int (fun _ _ => rfl)))) qss_nil) (qss_one (qs_ret (qe_tup qa_nil)))), ?_⟩
  cases t with
  | call w ts =>
    unfold TmIs at hv hB
    obtain ⟨a, b, us, rfl, ha, hb, hn, hs⟩ := hv
    obtain ⟨a', b', us', e, ha', hb', hn', hs'⟩ := hB
    cases e
    have e1 := (sB _ _ ha').symm.trans ha
    cases e1
    have e2 := (sB _ _ hb').symm.trans hb
    cases e2
    refine ⟨_, rfl, a, _, 0, _, rfl, rfl, SqT.of ha, rfl, rfl, _, rfl, iteY (by decide +kernel) ?_⟩
    exact ⟨_, rfl, a, _, 2, _, rfl, rfl, SqT.of ha, rfl, q b _ H (Same.refl H) hb hn hs'⟩
  | num n =>
    unfold TmIs at hv
    obtain ⟨a, rfl, ha⟩ := hv
    refine ⟨_, rfl, a, _, 0, _, rfl, rfl, SqT.of ha, rfl, rfl, _, rfl, iteN (by decide +kernel) ?_⟩
    exact ⟨(by show 0 <= sizeLine; decide), fun p hp => q p [] _ (same_new hp _) upd_same (by decide) (by show TmsIs _ [] []; unfold TmsIs; rfl)⟩
  | text z =>
    unfold TmIs at hv
    obtain ⟨a, rfl, ha⟩ := hv
    refine ⟨_, rfl, a, _, 0, _, rfl, rfl, SqT.of ha, rfl, rfl, _, rfl, iteN (by decide +kernel) ?_⟩
    exact ⟨(by show 0 <= sizeLine; decide), fun p hp => q p [] _ (same_new hp _) upd_same (by decide) (by show TmsIs _ [] []; unfold TmsIs; rfl)⟩
  | row =>
    unfold TmIs at hv
    obtain ⟨a, rfl, ha⟩ := hv
    refine ⟨_, rfl, a, _, 0, _, rfl, rfl, SqT.of ha, rfl, rfl, _, rfl, iteN (by decide +kernel) ?_⟩
    exact ⟨(by show 0 <= sizeLine; decide), fun p hp => q p [] _ (same_new hp _) upd_same (by decide) (by show TmsIs _ [] []; unfold TmsIs; rfl)⟩
  | mark =>
    unfold TmIs at hv
    obtain ⟨a, rfl, ha⟩ := hv
    refine ⟨_, rfl, a, _, 0, _, rfl, rfl, SqT.of ha, rfl, rfl, _, rfl, iteN (by decide +kernel) ?_⟩
    exact ⟨(by show 0 <= sizeLine; decide), fun p hp => q p [] _ (same_new hp _) upd_same (by decide) (by show TmsIs _ [] []; unfold TmsIs; rfl)⟩
  | val k z =>
    unfold TmIs at hv
    obtain ⟨a, rfl, ha⟩ := hv
    refine ⟨_, rfl, a, _, 0, _, rfl, rfl, SqT.of ha, rfl, rfl, _, rfl, iteN (by decide +kernel) ?_⟩
    exact ⟨(by show 0 <= sizeLine; decide), fun p hp => q p [] _ (same_new hp _) upd_same (by decide) (by show TmsIs _ [] []; unfold TmsIs; rfl)⟩
theorem ok_parts (X : Tx K w mg T) : ∀ n, FnOk P w K mg base CX0 (n + 2) T.qparts T.d_qparts ["term"] (spParts n)
  | 0 => by
    refine X.F_qparts.okQ sc_qparts (fun vs H Q E h => ?_) (fun cdv A outer s H vs Q E hr h => ?_)
    · obtain ⟨_, _, rfl, _⟩ := h
      rfl
    · obtain ⟨t, _, _, _, hd, _⟩ := h
      have := depth_pos t
      omega
  | n + 1 => by
    have G_qinnerterms := (ok_inner (P := P) (w := w) (base := base) X).mono (show 1 <= n + 2 by omega)
    have G_qparts := ok_parts X n
    refine X.F_qparts.okQ sc_qparts (fun vs H Q E h => ?_) (fun cdv A outer s H vs Q E hr h => ?_)
    · obtain ⟨_, _, rfl, _⟩ := h
      rfl
    obtain ⟨t, v, rfl, hv, hd, q⟩ := h
    refine ⟨_, (qss_one (qs_ret (qe_op op_add qe_int (qe_callB (call_sum rfl) rfl X.z_sum PyProof.Rows.boot_sum (qaE (qe_comp (ys := []) (js := []) rfl rfl (qi_tup (qe_call G_qinnerterms hr rfl X.m_qinnerterms X.F_qinnerterms.kp X.b_qinnerterms .nil pass0 (qaN (qv 0) qa_nil))) (fun _ _ _ _ _ => qif_nil) (fun _ _ _ _ _ => (qe_call G_qparts hr rfl X.m_qparts X.F_qparts.kp X.b_qparts .nil pass0 (qaN (qv 0) qa_nil)))) qa_nil))))), ?_⟩
    refine ⟨_, rfl, H, t, v, rfl, SameT.refl H, hv, fun b xs H1 s1 hb hn hs => ⟨b, rfl, ⟨_, SqT.of hb⟩, fun D hD => ?_⟩⟩
    refine comp_tupM (K := K) (ys := (inner t).map fun u => V.int (parts u)) (fitsL (by omega)) (by rw [List.length_map]; exact hs.len) (SqT.of hb) hD (fun i x y H2 hx hy s2 Q' k => ?_) fun H2 s2 hD2 => ?_
    · obtain ⟨u, hu, hux⟩ := hs.get hx
      rw [List.getElem?_map, hu] at hy
      cases hy
      refine ⟨_, rfl, u, x, rfl, TmIs.same (sameT (s1.trans s2)) u hux, ?_, fun H3 s3 => k H3 s3⟩
      have := depth_inner (List.mem_of_getElem? hu)
      omega
    · rw [parts_eq t] at q
      refine ⟨D, (inner t).map parts, rfl, SqL.of (by rw [hD2, List.map_map]; rfl), _, _, rfl, rfl, q H2 (s1.trans s2)⟩
theorem ok_depth (X : Tx K w mg T) : ∀ n, FnOk P w K mg base CX0 (n + 2) T.qdepth T.d_qdepth ["term"] (spDepth n)
  | 0 => by
    refine X.F_qdepth.okQ sc_qdepth (fun vs H Q E h => ?_) (fun cdv A outer s H vs Q E hr h => ?_)
    · obtain ⟨_, _, rfl, _⟩ := h
      rfl
    · obtain ⟨t, _, _, _, hd, _⟩ := h
      have := depth_pos t
      omega
  | n + 1 => by
    have G_qinnerterms := (ok_inner (P := P) (w := w) (base := base) X).mono (show 1 <= n + 2 by omega)
    have G_qdepth := ok_depth X n
    refine X.F_qdepth.okQ sc_qdepth (fun vs H Q E h => ?_) (fun cdv A outer s H vs Q E hr h => ?_)
    · obtain ⟨_, _, rfl, _⟩ := h
      rfl
    obtain ⟨t, v, rfl, hv, hd, q⟩ := h
    refine ⟨_, (qss_one (qs_ret (qe_op op_add qe_int (qe_maxD rfl rfl X.z_max (qe_comp (ys := []) (js := []) rfl rfl (qi_tup (qe_call G_qinnerterms hr rfl X.m_qinnerterms X.F_qinnerterms.kp X.b_qinnerterms .nil pass0 (qaN (qv 0) qa_nil))) (fun _ _ _ _ _ => qif_nil) (fun _ _ _ _ _ => (qe_call G_qdepth hr rfl X.m_qdepth X.F_qdepth.kp X.b_qdepth .nil pass0 (qaN (qv 0) qa_nil)))))))), ?_⟩
    refine ⟨_, rfl, H, t, v, rfl, SameT.refl H, hv, fun b xs H1 s1 hb hn hs => ⟨b, rfl, ⟨_, SqT.of hb⟩, fun D hD => ?_⟩⟩
    refine comp_tupM (K := K) (ys := (inner t).map fun u => V.int (depth u)) (fitsL (by omega)) (by rw [List.length_map]; exact hs.len) (SqT.of hb) hD (fun i x y H2 hx hy s2 Q' k => ?_) fun H2 s2 hD2 => ?_
    · obtain ⟨u, hu, hux⟩ := hs.get hx
      rw [List.getElem?_map, hu] at hy
      cases hy
      refine ⟨_, rfl, u, x, rfl, TmIs.same (sameT (s1.trans s2)) u hux, ?_, fun H3 s3 => k H3 s3⟩
      have := depth_inner (List.mem_of_getElem? hu)
      omega
    · rw [depth_eq t] at q
      refine ⟨D, (inner t).map fun u => (depth u : Int), rfl, SqL.of (by rw [hD2, List.map_map]; rfl), fun e0 => ?_, fun M h1 h2 => ?_⟩
      · have e1 : inner t = [] := List.map_eq_nil_iff.mp e0
        refine ⟨_, _, rfl, rfl, ?_⟩
        have z := q H2 (s1.trans s2)
        rw [e1, depths] at z
        exact z
      · have e1 := depth_max h1 h2
        refine ⟨_, _, rfl, rfl, ?_⟩
        have z := q H2 (s1.trans s2)
        rw [e1]
        rw [Int.natCast_add] at z
        exact z
def tag : Tm -> Str
  | .num _ => "num"
  | .text _ => "text"
  | .row => "row"
  | .mark => "mark"
  | .val _ _ => "of"
  | .call _ _ => "call"
theorem head_of {H : Hp} {t : Tm} {v : V} (h : TmIs H t v) : ∃ a r, v = .ref a /\ H a = some (.tup (.str (tag t) :: r)) := by
  cases t with
  | call w ts =>
    unfold TmIs at h
    obtain ⟨a, b, us, e, ha, _⟩ := h
    exact ⟨a, _, e, ha⟩
  | _ =>
    unfold TmIs at h
    obtain ⟨a, e, ha⟩ := h
    exact ⟨a, _, e, ha⟩
theorem tag_of {t : Tm} (h : isVal t = false) : decide (V.str (tag t) = V.str "of") = false := by
  cases t with
  | val k z => cases h
  | num n => exact (by decide +kernel : decide (V.str "num" = V.str "of") = false)
  | text n => exact (by decide +kernel : decide (V.str "text" = V.str "of") = false)
  | row => exact (by decide +kernel : decide (V.str "row" = V.str "of") = false)
  | mark => exact (by decide +kernel : decide (V.str "mark" = V.str "of") = false)
  | call w ts => exact (by decide +kernel : decide (V.str "call" = V.str "of") = false)
theorem ok_named (X : Tx K w mg T) : ∀ n, FnOk P w K mg base CX0 (n + 2) T.qnamed T.d_qnamed ["term"] (spNamed n)
  | 0 => by
    refine X.F_qnamed.okQ sc_qnamed (fun vs H Q E h => ?_) (fun cdv A outer s H vs Q E hr h => ?_)
    · obtain ⟨_, _, rfl, _⟩ := h
      rfl
    · obtain ⟨t, _, _, _, hd, _⟩ := h
      have := depth_pos t
      omega
  | n + 1 => by
    have G_qinnerterms := (ok_inner (P := P) (w := w) (base := base) X).mono (show 1 <= n + 2 by omega)
    have G_qnamed := ok_named X n
    refine X.F_qnamed.okQ sc_qnamed (fun vs H Q E h => ?_) (fun cdv A outer s H vs Q E hr h => ?_)
    · obtain ⟨_, _, rfl, _⟩ := h
      rfl
    obtain ⟨t, v, rfl, hv, hd, hpt, q⟩ := h
    refine ⟨_, (qss_cons (qs_if (qt_cmpR op_eq (qe_ix ix_tup (qv 0) qe_int (fun _ _ => rfl)) qe_str (nomark _)) (qss_one (qs_ret (qe_lst (qaT (qe_tup (qaS (qe_ix ix_tup (qv 0) qe_int (fun _ _ => rfl)) (qaS (qe_ix ix_tup (qv 0) qe_int (fun _ _ => rfl)) qa_nil))) qa_nil)))) qss_nil) (qss_cons (qs_set (i := 1) sc_qnamed.nd rfl (Or.inl rfl) (qe_lst qa_nil)) (qss_cons (qs_for PassesOwn.never rfl (qi_tup (qe_call G_qinnerterms hr rfl X.m_qinnerterms X.F_qinnerterms.kp X.b_qinnerterms .nil pass0 (qaN (qv 0) qa_nil))) (qg_name (i := 2) sc_qnamed.nd rfl (Or.inl rfl)) (qss_one (qs_for PassesOwn.never rfl (qi_list (qe_call G_qnamed hr rfl X.m_qnamed X.F_qnamed.kp X.b_qnamed .nil pass0 (qaN (qv 2) qa_nil))) (qg_name (i := 3) sc_qnamed.nd rfl (Or.inl rfl)) (qss_one (qs_if (qt_cmpR (op_notInD hr.units) (qv 3) (qv 1) rfl) (qss_one (qs_expr (qe_bm PySem.F.plainAttrs_list PySem.F.slot_list_append PySem.F.type_list_append mt_append (qv 1) (qaN (qv 3) qa_nil)))) qss_nil))))) (qss_one (qs_ret (qv 1)))))), ?_⟩
    cases hval : isVal t with
    | true =>
      cases t with
      | val k z =>
        unfold TmIs at hv
        obtain ⟨a, rfl, ha⟩ := hv
        refine ⟨_, rfl, a, _, 0, _, rfl, rfl, SqT.of ha, rfl, rfl, _, rfl, iteY (by decide +kernel) ?_⟩
        refine ⟨_, rfl, a, _, 1, _, rfl, rfl, SqT.of ha, rfl, _, rfl, a, _, 2, _, rfl, rfl, SqT.of ha, rfl, (by show 2 <= sizeLine; decide), fun p hp => ⟨(by show 1 <= sizeLine; decide), fun l hl => ?_⟩⟩
        have s1 := same_new hp (.tup [V.int k, V.str z])
        have s2 := same_new hl (.lst [V.ref p])
        refine q l _ _ (s1.free hl) (s1.trans s2) upd_same ?_
        rw [named]
        exact IsPs.one ⟨p, rfl, s2 _ _ upd_same⟩
      | _ => cases hval
    | false =>
      obtain ⟨a, r, rfl, ha⟩ := head_of hv
      refine ⟨_, rfl, a, _, 0, _, rfl, rfl, SqT.of ha, atI_head _ _, rfl, _, rfl, iteN (tag_of hval) ?_⟩
      refine ⟨(by show 0 <= sizeLine; decide), fun f hf => ?_⟩
      have s1 := same_new hf (.lst [])
      refine ⟨_, rfl, H, t, _, rfl, sameT s1, hv, fun b xs H2 s2 hb hn hs => ⟨b, rfl, ⟨_, SqT.of hb⟩, ?_⟩⟩
      refine for_tup (K := K) (a := b) (xs := xs) (fun i σ H' => ∃ ys x y, σ = [some (.ref a), some (.ref f), x, y] /\ Same H H' /\ H' b = some (.tup xs) /\ H' f = some (.lst ys) /\ IsPs H' (((inner t).take i).foldl (fun a u => uni a (named u)) []) ys)
        ⟨[], none, none, rfl, s1.trans s2, hb, s2 _ _ upd_same, rfl⟩ (fun i σ H' _ ⟨_, _, _, _, _, h, _⟩ => SqT.of h) ?_ ?_
      · rintro i x σ H' hx ⟨ys, x0, y0, rfl, sm, hb', hf', hps⟩
        obtain ⟨u, hu, hux⟩ := hs.get hx
        have hmem := List.mem_of_getElem? hu
        have hdu := depth_inner hmem
        have hpu := parts_inner hmem
        refine ⟨_, rfl, u, x, rfl, TmIs.same (sameT sm) u hux, by omega, by omega, fun p zs H3 hp3 s3 hz3 hps3 => ⟨p, rfl, ⟨_, SqL.of hz3⟩, ?_⟩⟩
        have hacc := fold_len t i
        generalize hacc' : ((inner t).take i).foldl (fun a u => uni a (named u)) [] = acc at hps hacc
        have hnl := named_len u
        have hzl := hps3.len
        have hpf : p ≠ f := fun z => by rw [z, hf'] at hp3; cases hp3
        refine for_list (K := K) (a := p) (xs := zs) (fun j σ H4 => ∃ ys y, σ = [some (.ref a), some (.ref f), some x, y] /\ Same H H4 /\ H4 b = some (.tup xs) /\ H4 p = some (.lst zs) /\ H4 f = some (.lst ys) /\ j <= zs.length /\ IsPs H4 (uni acc ((named u).take j)) ys /\ IsPs H4 (named u) zs)
          ⟨ys, _, rfl, sm.trans s3, s3 _ _ hb', hz3, s3 _ _ hf', Nat.zero_le _, hps.same (sameT s3), hps3⟩ (fun j σ H4 _ ⟨_, _, _, _, _, h, _⟩ => SqL.of h) ?_ ?_
        · rintro j pv σ H4 hj ⟨ys4, y4, rfl, sm4, hb4, hp4, hf4, hjl, hps4, hpz4⟩
          obtain ⟨pr, hpr, hprv⟩ := hpz4.get hj
          refine ⟨_, rfl, _, rfl, f, ys4, daP pr, _, rfl, SqL.of hf4, isd_P hprv, isds_P hps4, Nat.le_trans (dep_P _) (by decide), _, rfl, ?_⟩
          have hst : uni acc ((named u).take (j + 1)) = addTo (uni acc ((named u).take j)) pr := by
            rw [take_snoc hpr]
            unfold uni
            rw [List.foldl_append]
            rfl
          have hjlt := lt_of_some hj
          by_cases hin : pr ∈ uni acc ((named u).take j)
          · refine iteN (by rw [any_P, decide_eq_true hin]; rfl) ?_
            refine ⟨ys4, _, rfl, sm4, hb4, hp4, hf4, hjlt, ?_, hpz4⟩
            rw [hst]
            unfold addTo
            rw [if_pos hin]
            exact hps4
          · refine iteY (by rw [any_P, decide_eq_false hin]; rfl) ?_
            have hlen : ys4.length < sizeLine := by
              have h1 := uni_len ((named u).take j) acc
              have h2 := hps4.len
              rw [List.length_take] at h1
              exact fitsL (by omega)
            refine ⟨_, rfl, .inl ⟨rfl, _, SqL.of hf4⟩, _, rfl, f, ys4, pv, rfl, rfl, hf4, hlen, ?_⟩
            have sT := sameT_lst (ys := ys4 ++ [pv]) hf4
            refine ⟨ys4 ++ [pv], _, rfl, same_upd hf sm4, ?_, ?_, upd_same, hjlt, ?_, hpz4.same sT⟩
            · rw [upd_ne (ne_of hb4 hf4 (fun z => nomatch z))]
              exact hb4
            · rw [upd_ne hpf]
              exact hp4
            · rw [hst]
              unfold addTo
              rw [if_neg hin]
              exact (hps4.same sT).app (IsPs.one (hprv.same sT))
        · rintro σ H4 ⟨ys4, y4, rfl, sm4, hb4, hp4, hf4, hjl, hps4, hpz4⟩
          refine ⟨ys4, _, _, rfl, sm4, hb4, hf4, ?_⟩
          rw [take_snoc hu, List.foldl_append, hacc']
          rw [List.take_of_length_le (by omega)] at hps4
          exact hps4
      · rintro σ H' ⟨ys, x0, y0, rfl, sm, hb', hf', hps⟩
        refine ⟨_, rfl, q f ys H' hf sm hf' ?_⟩
        rw [named_eq hval]
        rw [List.take_of_length_le (by have := hs.len; omega)] at hps
        exact hps
end
end K12
namespace L2
open PySem PySem.Spec PyProof.Rows
theorem take_in {zs : List Str} {i : Nat} {z : Str} (h : zs[i]? = some z) (k : Str) : (decide (k ∈ zs.take i) || decide (k = z)) = decide (k ∈ zs.take (i + 1)) := by
  rw [take_snocA h]
  simp [List.mem_append]
theorem take_out {zs : List Str} {i : Nat} {z : Str} (nd : zs.Nodup) (h : zs[i]? = some z) : decide (z ∈ zs.take i) = false := by
  refine decide_eq_false fun m => ?_
  obtain ⟨j, hj⟩ := List.getElem?_of_mem m
  rw [List.getElem?_take] at hj
  split at hj
  · rename_i hl
    obtain ⟨a1, a2⟩ := List.getElem?_eq_some_iff.mp h
    obtain ⟨b1, b2⟩ := List.getElem?_eq_some_iff.mp hj
    exact List.pairwise_iff_getElem.mp nd j i b1 a1 hl (b2.trans a2.symm)
  · cases hj
section
variable {P : Program} {w : World} {A : Around} {E : Value -> Shared -> Prop} {s : Shared}
theorem set_moves {h h' : Heap} {S : Addr} {f : Str -> Bool} {n : Nat} (x : h.SetOf (PySem.strKind P w) S f n) (k : ∀ o, h.get? S = some o -> h'.get? S = some o) : h'.SetOf (PySem.strKind P w) S f n := by
  obtain ⟨o, es, ep, t, e, r⟩ := x
  exact ⟨o, es, ep, t, k o e, r⟩
theorem setS_loop {R : Result -> Shared -> Prop} {I : Addr} {fp wr : List Addr} {G : Array GenState -> Array GenState -> Prop} {n : Nat} {V' : Nat -> Value -> Prop} {St : Nat -> Shared -> Prop}
    (W : WalksS P w A.in1 I fp wr G n V' St) (S : Addr) (nS : S ∉ fp) (zs : List Str) (nd : zs.Nodup) (lz : zs.length = n)
    (hv : ∀ i v, V' i v -> ∃ z t, zs[i]? = some z /\ v = .str z t) (hb : n + 1 < scanBound) :
    ∀ (k i : Nat) (s : Shared), n - i = k -> i <= n -> St i s -> s.heap.SetOf (PySem.strKind P w) S (fun y => decide (y ∈ zs.take i)) i ->
      (∀ s', Moved (S :: wr) G s s' -> s'.heap.SetOf (PySem.strKind P w) S (fun y => decide (y ∈ zs.take n)) n -> R (.ok (.ret .none)) s') ->
      codeAny (model P w) A (.builtin "set.update.loop" ⟨[.ref S, .ref I], []⟩) R s := by
  have nW : S ∉ wr := fun h => nS (W.sub _ h)
  have sub : ∀ b ∈ wr, b ∈ S :: wr := fun b hb => .tail _ hb
  intro k
  induction k with
  | zero =>
    intro i s hk hi st hS hR
    obtain rfl : i = n := by omega
    refine codeAny_builtin F.entry_set_update_loop ?_
    rw [Around.under_plainId F.plain_set_update_loop _]
    refine wpAny_bind (m := pyNext (.ref I)) (W.done s _ _ st fun s' mv => ?_)
    exact wpAny_pure (hR s' (mv.mono sub) (set_moves hS fun o e => mv.heap S o nW e))
  | succ k ih =>
    intro i s hk hi st hS hR
    refine codeAny_builtin F.entry_set_update_loop ?_
    rw [Around.under_plainId F.plain_set_update_loop _]
    refine wpAny_bind (m := pyNext (.ref I)) (W.item i s _ _ (by omega) st fun v s' pv st' mv => ?_)
    obtain ⟨z, t, hz, rfl⟩ := hv i v pv
    have hS1 := set_moves hS (h' := s'.heap) fun o e => mv.heap S o nW e
    refine wpAny_bind (m := holding [Value.str z t] (setAdd S (.str z t))) (wpAny_holding ?_)
    unfold setAdd
    refine wpAny_holding (wpAny_bind ((PySem.strKind P w).pyHash (k := z) (PySem.strKind_is _ _ _ _) ?_))
    refine wpAny_setAddHashed_of (knd := PySem.strKind P w) (s := { s' with toks := s'.toks + 1 }) (PySem.strKind_is _ _ _ _) rfl hS1 (by omega) fun h' sb hS2 => ?_
    have out := take_out nd hz
    have hS3 : h'.SetOf (PySem.strKind P w) S (fun y => decide (y ∈ zs.take (i + 1))) (i + 1) := SetOf_congr hS2 (take_in hz) (by simp only [out]; rfl)
    refine wpAny_pure ⟨plainId_quiet F.plain_set_update_loop _, ih (i + 1) _ (by omega) (by omega) (W.frame _ s' _ _ st' (Nat.le_succ _) fun b hb o e => ?_) hS3 fun s2 mv2 hS4 => ?_⟩
    · have ne : b ≠ S := fun z => nS (z ▸ hb)
      exact (sb.2 b ne).trans e
    · refine hR s2 (Moved.trans W.gtrans ((mv.mono sub).then_heap (Nat.le_succ _) fun b o hb e => ?_) mv2) hS4
      have ne : b ≠ S := fun z => hb (z ▸ .head _)
      exact (sb.2 b ne).trans e
abbrev setO (led : Bool) : Obj := { cls := .type "set", dict := none, data := .set #[] 0 (.fresh 0 0 led) }
theorem call_setS {l : Addr} {items : Array Value} {zs : List Str} {Q : Value -> Shared -> Prop} (hh : A.handled = none) (hl : s.heap.IsList l items) (nd : zs.Nodup) (lz : zs.length = items.size)
    (hi : ∀ (i : Nat) v, items[i]? = some v -> ∃ z t, zs[i]? = some z /\ v = .str z t) (hb : items.size + 1 < scanBound)
    (q : ∀ (h' : Heap) (tk : Nat), h'.SetOf (PySem.strKind P w) s.heap.objs.size (fun y => decide (y ∈ zs.take items.size)) items.size -> (∀ b o, s.heap.get? b = some o -> h'.get? b = some o) -> Q (.ref s.heap.objs.size) { s with heap := h', toks := tk }) :
    wpAny (model P w) A (call (.type "set") [.ref l]) Q E s := by
  obtain ⟨_, _, cmro⟩ := F.called_set.mro
  have cmade := F.called_set.made
  have csub := F.called_set.sub
  refine wpAny_call (codeAny_of_tree (show wpAny _ _ (callAny (.type "set") _) _ _ _ from wpAny_pure ⟨Code.quiet_builtin _ (by decide +kernel), codeAny_builtin F.entry_type_call ?_⟩))
  rw [Around.under_plain (weight_type_call_type "set" [.ref l] []) rfl]
  have c1 := F.called_set.notType
  have c2 := F.called_set.canCreate
  have c3 := F.typeCall_set_1 (.ref l)
  repeat (any_goals (first | assumption | wp_step))
  refine codeAny_mono (code_set_new_1 (.ref l) (E := E) (Q₁ := fun obj s₁ => ∃ led : Bool, obj = .ref s.heap.objs.size /\ s₁ = { s with heap := s.heap.push (setO led) }) fun led => ⟨led, rfl, rfl⟩) fun r s₁ hr => ?_
  cases r with
  | error e => exact hr
  | ok fl =>
    cases fl with
    | ret obj =>
      obtain ⟨led, rfl, rfl⟩ := hr
      have hS : (s.heap.push (setO led)).get? s.heap.objs.size = some (setO led) := Heap.get?_push_size _ rfl
      have hT : Shared.TypeIs { s with heap := s.heap.push (setO led) } (.ref s.heap.objs.size) "set" := ⟨_, hS, rfl⟩
      have l1 := F.called_set.init.lookup
      have l2 := F.called_set.init.bind (.ref s.heap.objs.size)
      repeat (any_goals (first | assumption | wp_step))
      refine codeAny_mono (codeAny_call_builtin (R := wants (fun r s₂ => r = .none /\ ∃ h' tk, s₂ = { s with heap := h', toks := tk } /\
          h'.SetOf (PySem.strKind P w) s.heap.objs.size (fun y => decide (y ∈ zs.take items.size)) items.size /\ (∀ b o, s.heap.get? b = some o -> h'.get? b = some o)) E) F.called_set.init.plain F.entry_set_init (check_set_init_1 hT ?_)) fun r₂ s₂ hr₂ => ?_
      · obtain ⟨⟨oc, od, oda, osl⟩, hol, hcl, nl, hdl⟩ := hl
        simp only at hcl hdl
        subst hcl hdl
        have hol' : (s.heap.push (setO led)).get? l = some { cls := .type "list", dict := od, data := .seq items nl, slots := osl } := Heap.get?_push_of_some _ hol
        have t1 := F.sub_list_set
        have t2 := F.sub_list_frozenset
        have t3 : (Value.type "list" == Value.type "dict") = false := by decide
        have hl1 : (s.heap.push (setO led)).IsList l items := ⟨_, hol', rfl, nl, rfl⟩
        unfold Builtin.«set.__init__» noKeywords Builtin.Frozenset.updateFrom
        generalize hPI : pyIter = PI
        wp_walk
        subst hPI
        refine wpAny_pyIter_list hl1 (wpAny_bind (wpAny_runValue ?_))
        have ll : l < s.heap.objs.size := Heap.lt_size hol
        have szp : (s.heap.push (setO led)).objs.size = s.heap.objs.size + 1 := Heap.size_push ..
        have nI : l ≠ (s.heap.push (setO led)).objs.size := by rw [szp]; exact Nat.ne_of_lt (Nat.lt_succ_of_lt ll)
        refine setS_loop ((Walks.list (show A.in1.in1.in1.handled = none by simp [hh]) _ l nI items).toS) s.heap.objs.size (by rw [szp]; simp only [List.mem_cons, List.mem_singleton, List.not_mem_nil, or_false, not_or]; exact ⟨Nat.ne_of_lt (Nat.lt_succ_self _), Nat.ne_of_gt ll⟩) zs nd lz hi hb (items.size - 0) 0 _ (by omega) (Nat.zero_le _) ⟨⟨_, Heap.get?_push_size _ rfl, rfl, rfl⟩, hl1.push _⟩ ?_ ?_
        · have hg : ((s.heap.push (setO led)).push { cls := .type "list_iterator", data := .fields #[.ref l, .int 0 0] }).get? s.heap.objs.size = some (setO led) := Heap.get?_push_of_some _ hS
          exact SetOf_congr ((setObjOf_fresh (knd := PySem.strKind P w) led).setOf hg (by unfold scanBound; omega)) (fun _ => by simp) rfl
        · intro s' mv hS'
          obtain ⟨h', g', d', tk', os'⟩ := s'
          obtain rfl : g' = s.gens := mv.gens
          obtain rfl : d' = s.drawn := mv.drawn
          obtain rfl : os' = s.os := mv.os
          refine wpAny_pure (show wpAny _ _ (ret Value.none) _ _ _ from wpAny_pure ⟨rfl, h', tk', rfl, hS', fun b o e => ?_⟩)
          have hb := Heap.lt_size e
          refine mv.heap b o ?_ (Heap.get?_push_of_some _ (Heap.get?_push_of_some _ e))
          simp only [List.mem_cons, List.mem_singleton, List.not_mem_nil, or_false, not_or, szp]
          exact ⟨Nat.ne_of_lt hb, Nat.ne_of_lt (Nat.lt_succ_of_lt hb)⟩
      · cases r₂ with
        | error e => exact hr₂
        | ok fl₂ =>
          cases fl₂ with
          | ret r =>
            obtain ⟨rfl, h', tk, rfl, hS', hk'⟩ := hr₂
            repeat (any_goals (first | assumption | wp_step))
            exact q _ _ hS' hk'
          | _ => exact hr₂.elim
    | _ => exact hr.elim
end
section
variable {X : Cx} {e : Expr} {te : TE} {p1 p2 q1 q2 : Pos}
def tLenSet (K : PySem.W.Frag) (te : TE) : TE := fun σ H Q => te σ H fun x H1 => ∃ (l : Addr) (zs : List Str), x = .ref l /\ SqL K H1 l (zs.map V.str) /\ zs.Nodup /\ zs.length <= 1000 /\ Q (.int (zs.length : Int)) H1
theorem pe_lenSet (hc : X.calm = true) (g1 : Gl X "len") (m1 : X.mg "len" = none) (g2 : Gl X "set") (m2 : X.mg "set" = none) (he : PE X e te)
    (hs2 : starEach [e] X.env = [(false, eval e X.env)] := by rfl) (hs1 : starEach [.Call (.Name "set" p2) [e] [] q2] X.env = [(false, eval (.Call (.Name "set" p2) [e] [] q2) X.env)] := by rfl) :
    PE X (.Call (.Name "len" p1) [.Call (.Name "set" p2) [e] [] q2] [] q1) (tLenSet X.K te) := by
  intro pins s σ H Q I h
  refine Call_ (ld_blt I g1 m1 PySem.boot_len (PyProof.Rows.callWith_builtin1 ?_ hs1 rfl))
  rw [hs1]
  show wpAny _ _ (spliced ((false, eval (.Call (.Name "set" p2) [e] [] q2) X.env) :: backTo q1 [])) _ _ s
  refine Calls.spliced_cons (Call_ (ld_blt I g2 m2 PyProof.Rows.boot_set (PyProof.Rows.callWith_type1 ?_ hs2 rfl)))
  rw [hs2]
  show wpAny _ _ (spliced ((false, eval e X.env) :: backTo q2 [])) _ _ s
  refine Calls.spliced_cons (thn (he pins s σ H _ I h) fun u s1 ⟨x, H1, I1, r1, l, zs, ex, hq, nd, lz, k⟩ => ?_)
  subst ex
  cases r1
  refine Calls.spliced_nil ?_
  obtain ⟨its, rv, pl, hz⟩ := I1.list hq
  have hlen := rv.length
  rw [List.length_map] at hlen
  have hsz : its.toArray.size = zs.length := by rw [List.size_toArray]; omega
  refine call_setS (zs := zs) (I1.ok.hd hc) pl.isList nd hsz.symm (fun i v hv => ?_) (by rw [hsz]; unfold scanBound; omega) fun h' tk hS kp => ?_
  · have hv : its[i]? = some v := by simpa using hv
    have hi : i < zs.length := by have := lt_of_some hv; omega
    obtain ⟨z, hz'⟩ := some_of_lt hi
    obtain ⟨v', hv', rv'⟩ := rv.get (i := i) (by rw [List.getElem?_map, hz']; rfl)
    rw [hv] at hv'
    cases hv'
    obtain ⟨t, rfl⟩ := rv'
    exact ⟨z, t, hz', rfl⟩
  · refine Calls.spliced_nil ?_
    obtain ⟨o, es, ep, t, ho, hex, hd, hel, hmem, hb, hf, hn⟩ := hS
    have hes : es.size = zs.length := by rw [hn, hsz]
    refine call_len_set ho hex hd hf (by rw [hes]; omega) ?_
    rw [hes]
    exact ⟨.int (zs.length : Int), H1, I1.kept (t' := tk + 1 + 1) kp, ⟨_, rfl⟩, k⟩
theorem qe_lenSet (hc : X.calm = true) (g1 : Gl X "len") (m1 : X.mg "len" = none) (g2 : Gl X "set") (m2 : X.mg "set" = none) (he : QE X e te)
    (hs2 : starEach [e] X.env = [(false, eval e X.env)] := by rfl) (hs1 : starEach [.Call (.Name "set" p2) [e] [] q2] X.env = [(false, eval (.Call (.Name "set" p2) [e] [] q2) X.env)] := by rfl) :
    QE X (.Call (.Name "len" p1) [.Call (.Name "set" p2) [e] [] q2] [] q1) (tLenSet X.K te) := ⟨pe_lenSet hc g1 m1 g2 m2 he.h hs2 hs1⟩
theorem op_notInDict (hu : X.A.units + 1 < cLine) : OpR X (compareOp .NotIn) (fun x y H Q => ∃ a o, y = .ref a /\ DGet H a x o /\ Q (.bl (!o.isSome)) H) := by
  intro pins s σ H x y v u Q I rx ry h
  obtain ⟨a, o, rfl, g, q⟩ := h
  cases ry
  exact d_notIn hu I g rx fun s' I' => ⟨.bl (!o.isSome), H, I', rfl, q⟩
end
end L2
namespace K12
open PySem L2
open TM 
theorem eqDs_strs : ∀ (ks : List Str), eqDs (ks.map fun n => Da.fl (.str n)) (ks.map fun n => Da.fl (.str n)) = true
  | [] => by simp [eqDs]
  | k :: ks => by
    rw [List.map_cons]
    unfold eqDs
    rw [eqDs_strs ks]
    unfold eqD
    rw [show eqV (.str k) (.str k) = true from eqV_refl rfl]
    rfl
def spPick : Sp := fun vs H Q _ => ∃ a k, vs = [.ref a] /\ H a = some (.lst [.str "num", .str k, .str k]) /\ Q (.str k) H
def spMade : Sp := fun vs H Q _ => ∃ a d ks k, vs = [.str d, .ref a] /\ H a = some (.lst (ks.map V.str)) /\ Mk d ks k /\ ∀ H', Same H H' -> Q (.str k) H'
def spTold : Sp := fun vs H Q _ => ∃ (a d : Addr) (kvs : List (List Key × V)) (i : Int) (z kd : Str), vs = [.ref a, .ref d] /\ H a = some (.tup [.int i, .str z]) /\ H d = some (.dT kvs) /\ valV kvs [.inl i, .inr z] = some (.str kd) /\ Q (.str kd) H
def Tells (E : KEnv) (kvs : List (List Key × V)) : Prop := ∀ i z kd, E i z kd -> valV kvs [.inl i, .inr z] = some (.str kd)
def spKindOf (n : Nat) : Sp := fun vs H Q _ => ∃ (E : KEnv) (t : Tm) (v : V) (d : Addr) (kvs : List (List Key × V)) (kd : Str), vs = [v, .ref d] /\ TmIs H t v /\ depth t <= n /\ H d = some (.dT kvs) /\ Tells E kvs /\ Kd E t kd /\ ∀ H', Same H H' -> Q (.str kd) H'
section
variable {P : Program} {w : World} {K : PySem.W.Frag} {mg : Str -> Option Value} {base : Heap} {T : Adr}
theorem need_of (X : Tx K w mg T) {d : Str} {ns : List Str} {k : Str} (h : (d, ns, k) ∈ NEEDK) : ∃ a t, valT [(("add" : Str), Value.ref T.NEEDS_0), (("sub" : Str), Value.ref T.NEEDS_1), (("mul" : Str), Value.ref T.NEEDS_2), (("less" : Str), Value.ref T.NEEDS_3), (("glue" : Str), Value.ref T.NEEDS_4), (("show" : Str), Value.ref T.NEEDS_5), (("size" : Str), Value.ref T.NEEDS_6), (("put" : Str), Value.ref T.NEEDS_7), (("link" : Str), Value.ref T.NEEDS_8), (("at" : Str), Value.ref T.NEEDS_9), (("many" : Str), Value.ref T.NEEDS_10)] d = some (.ref a) /\ (∀ H, SqT K H a (ns.map V.str)) /\ valT [(("add" : Str), Value.str "num" T.MAKES_0), (("sub" : Str), Value.str "num" T.MAKES_1), (("mul" : Str), Value.str "num" T.MAKES_2), (("less" : Str), Value.str "num" T.MAKES_3), (("glue" : Str), Value.str "text" T.MAKES_4), (("show" : Str), Value.str "text" T.MAKES_5), (("size" : Str), Value.str "num" T.MAKES_6), (("put" : Str), Value.str "row" T.MAKES_7), (("link" : Str), Value.str "row" T.MAKES_8), (("at" : Str), Value.str "num" T.MAKES_9), (("many" : Str), Value.str "num" T.MAKES_10)] d = some (.str k t) := by
  simp only [NEEDK, List.mem_cons, List.mem_nil_iff, or_false, Prod.mk.injEq] at h
  rcases h with ⟨rfl, rfl, rfl⟩ | ⟨rfl, rfl, rfl⟩ | ⟨rfl, rfl, rfl⟩ | ⟨rfl, rfl, rfl⟩ | ⟨rfl, rfl, rfl⟩ | ⟨rfl, rfl, rfl⟩ | ⟨rfl, rfl, rfl⟩ | ⟨rfl, rfl, rfl⟩ | ⟨rfl, rfl, rfl⟩ | ⟨rfl, rfl, rfl⟩ | ⟨rfl, rfl, rfl⟩
  · exact ⟨T.NEEDS_0, T.MAKES_0, rfl, X.q_NEEDS_0, rfl⟩
  · exact ⟨T.NEEDS_1, T.MAKES_1, rfl, X.q_NEEDS_1, rfl⟩
  · exact ⟨T.NEEDS_2, T.MAKES_2, rfl, X.q_NEEDS_2, rfl⟩
  · exact ⟨T.NEEDS_3, T.MAKES_3, rfl, X.q_NEEDS_3, rfl⟩
  · exact ⟨T.NEEDS_4, T.MAKES_4, rfl, X.q_NEEDS_4, rfl⟩
  · exact ⟨T.NEEDS_5, T.MAKES_5, rfl, X.q_NEEDS_5, rfl⟩
  · exact ⟨T.NEEDS_6, T.MAKES_6, rfl, X.q_NEEDS_6, rfl⟩
  · exact ⟨T.NEEDS_7, T.MAKES_7, rfl, X.q_NEEDS_7, rfl⟩
  · exact ⟨T.NEEDS_8, T.MAKES_8, rfl, X.q_NEEDS_8, rfl⟩
  · exact ⟨T.NEEDS_9, T.MAKES_9, rfl, X.q_NEEDS_9, rfl⟩
  · exact ⟨T.NEEDS_10, T.MAKES_10, rfl, X.q_NEEDS_10, rfl⟩
theorem ok_pick (X : Tx K w mg T) : FnOk P w K mg base CX0 2 T.qpickedkind T.d_qpickedkind ["kinds"] spPick := by
  refine X.F_qpickedkind.okQ sc_qpickedkind (fun vs H Q E h => ?_) (fun cdv A outer s H vs Q E hr h => ?_)
  · obtain ⟨_, _, rfl, _⟩ := h
    rfl
  obtain ⟨a, k, rfl, ha, q⟩ := h
  refine ⟨_, (qss_cons (qs_if (qw_pt (qw_and (qt_cmpR op_eq (qe_callB call_len_seq rfl X.z_len PySem.boot_len (qaN (qv 0) qa_nil)) qe_int (nomark _)) (qw_and (qt_cmpR op_eq (qe_ix ix_list (qv 0) qe_int (fun _ _ => rfl)) qe_str (nomark _)) (qw_and1 (qt_cmpR op_eq (qe_ix ix_list (qv 0) qe_int (fun _ _ => rfl)) (qe_ix ix_list (qv 0) qe_int (fun _ _ => rfl)) (nomark _)))))) (qss_one (qs_ret (qe_ix ix_list (qv 0) qe_int (fun _ _ => rfl)))) qss_nil) (qss_one qs_never)), ?_⟩
  refine ⟨_, rfl, a, _, rfl, .inl (SqL.of ha), rfl, _, rfl, iteYd rfl ?_⟩
  refine ⟨_, rfl, a, _, 0, .str "num", rfl, rfl, SqL.of ha, rfl, rfl, _, rfl, iteYd rfl ?_⟩
  refine ⟨_, rfl, a, _, 1, .str k, rfl, rfl, SqL.of ha, rfl, _, rfl, a, _, 2, .str k, rfl, rfl, SqL.of ha, rfl, rfl, _, rfl, iteYd rfl ?_⟩
  exact ⟨_, rfl, a, _, 1, .str k, rfl, rfl, SqL.of ha, rfl, q⟩
theorem ok_made (X : Tx K w mg T) : FnOk P w K mg base CX0 4 T.qmadekind T.d_qmadekind ["deed", "kinds"] spMade := by
  have G_qpickedkind := (ok_pick (P := P) (w := w) (base := base) X).mono (show 2 <= 3 by decide)
  refine X.F_qmadekind.okQ sc_qmadekind (fun vs H Q E h => ?_) (fun cdv A outer s H vs Q E hr h => ?_)
  · obtain ⟨_, _, _, _, rfl, _⟩ := h
    rfl
  obtain ⟨a, d, ks, k, rfl, ha, hmk, q⟩ := h
  refine ⟨_, (qss_cons (qs_if (qt_cmpR op_eq (qv 0) qe_str (nomark _)) (qss_one (qs_ret (qe_call G_qpickedkind hr rfl X.m_qpickedkind X.F_qpickedkind.kp X.b_qpickedkind .nil pass0 (qaN (qv 1) qa_nil)))) qss_nil) (qss_cons (qs_if (qt_cmpR op_notInTop (qv 0) (qe_glob rfl X.c_NEEDS (v := V.ref T.a_NEEDS) rfl) rfl) qss_never qss_nil) (qss_cons (qs_if (qt_cmpR (op_neD hr.units) (qe_callTy call_tuple_of rfl X.z_tuple PyProof.Rows.boot_tuple (qaN (qv 1) qa_nil)) (qe_ix ix_top (qe_glob rfl X.c_NEEDS (v := V.ref T.a_NEEDS) rfl) (qv 0) (fun _ _ => rfl)) (nomark _)) qss_never qss_nil) (qss_one (qs_ret (qe_ix ix_top (qe_glob rfl X.c_MAKES (v := V.ref T.a_MAKES) rfl) (qv 0) (fun _ _ => rfl))))))), ?_⟩
  rcases hmk with ⟨rfl, rfl⟩ | hm
  · refine ⟨_, rfl, rfl, _, rfl, iteYd rfl ?_⟩
    exact ⟨_, rfl, a, k, rfl, ha, q H (Same.refl H)⟩
  · have n1 : ¬ V.str d = V.str "pick" := fun z => by
      have z : d = "pick" := V.str.inj z
      subst z
      simp only [NEEDK, List.mem_cons, List.mem_nil_iff, or_false, Prod.mk.injEq] at hm
      rcases hm with ⟨z, _⟩ | ⟨z, _⟩ | ⟨z, _⟩ | ⟨z, _⟩ | ⟨z, _⟩ | ⟨z, _⟩ | ⟨z, _⟩ | ⟨z, _⟩ | ⟨z, _⟩ | ⟨z, _⟩ | ⟨z, _⟩ <;> exact absurd z (by decide)
    refine ⟨_, rfl, rfl, _, rfl, iteNd n1 ?_⟩
    obtain ⟨b, t, hv, hq, hk⟩ := need_of X hm
    refine ⟨_, rfl, _, _, _, rfl, rfl, X.d_NEEDS, X.y_NEEDS, _, rfl, iteN (by rw [hv]; rfl) ?_⟩
    refine ⟨_, rfl, a, _, rfl, .inl ⟨SqL.of ha, fun p hp => ⟨_, rfl, d, _, _, _, .ref b, rfl, rfl, X.d_NEEDS, hv, rfl, ?_⟩⟩⟩
    have sm : Same H (upd H p (.tup (ks.map V.str))) := same_new hp _
    refine ⟨p, b, _, _, _, _, rfl, rfl, .inl ⟨SqT.of upd_same, hq _⟩, isds_strs ks, isds_strs ks, ?_, ?_⟩
    · rw [dep_strs]
      decide
    · rw [eqDs_strs]
      refine ⟨_, rfl, iteN rfl ?_⟩
      exact ⟨_, rfl, d, _, _, _, .str k, rfl, rfl, X.d_MAKES, hk, ⟨t, rfl⟩, q _ sm⟩
theorem ok_told (X : Tx K w mg T) : FnOk P w K mg base CX0 1 T.qtoldkind T.d_qtoldkind ["pair", "kinds"] spTold := by
  refine X.F_qtoldkind.okQ sc_qtoldkind (fun vs H Q E h => ?_) (fun cdv A outer s H vs Q E hr h => ?_)
  · obtain ⟨_, _, _, _, _, _, rfl, _⟩ := h
    rfl
  obtain ⟨a, d, kvs, i, z, kd, rfl, ha, hd, hv, q⟩ := h
  refine ⟨_, (qss_cons (qs_if (qt_cmpR (op_notInDict (hu_of hr)) (qv 0) (qv 1) rfl) qss_never qss_nil) (qss_one (qs_ret (qe_dget (hu_of hr) (qv 1) (qv 0))))), ?_⟩
  have g : DGet H d (.ref a) (some (.str kd)) := by
    have := DGet.t (k := [Sum.inl i, Sum.inr z]) hd ha
    rw [hv] at this
    exact this
  refine ⟨_, rfl, _, rfl, d, _, rfl, g, _, rfl, iteN rfl ?_⟩
  exact ⟨_, rfl, _, rfl, d, .str kd, rfl, g, q⟩
theorem ok_kindof (X : Tx K w mg T) : ∀ n, FnOk P w K mg base CX0 (n + 5) T.qkindof T.d_qkindof ["term", "kinds"] (spKindOf n)
  | 0 => by
    refine X.F_qkindof.okQ sc_qkindof (fun vs H Q E h => ?_) (fun cdv A outer s H vs Q E hr h => ?_)
    · obtain ⟨_, _, _, _, _, _, rfl, _⟩ := h
      rfl
    · obtain ⟨_, t, _, _, _, _, _, _, hd, _⟩ := h
      have := depth_pos t
      omega
  | n + 1 => by
    have G_qmadekind := (ok_made (P := P) (w := w) (base := base) X).mono (show 4 <= n + 5 by omega)
    have G_qtoldkind := (ok_told (P := P) (w := w) (base := base) X).mono (show 1 <= n + 5 by omega)
    have G_qkindof := ok_kindof X n
    refine X.F_qkindof.okQ sc_qkindof (fun vs H Q E h => ?_) (fun cdv A outer s H vs Q E hr h => ?_)
    · obtain ⟨_, _, _, _, _, _, rfl, _⟩ := h
      rfl
    obtain ⟨Ev, t, v, d, kvs, kd, rfl, ht, hdp, hd, tl, hk, q⟩ := h
    refine ⟨_, (qss_cons (qs_set (i := 2) sc_qkindof.nd rfl (Or.inl rfl) (qe_ix ix_tup (qv 0) qe_int (fun _ _ => rfl))) (qss_cons (qs_if (qt_cmpR op_eq (qv 2) qe_str (nomark _)) (qss_one (qs_ret (qe_call G_qmadekind hr rfl X.m_qmadekind X.F_qmadekind.kp X.b_qmadekind .nil pass0 (qaS (qe_ix ix_tup (qv 0) qe_int (fun _ _ => rfl)) (qaE (qe_comp (ys := ["kinds"]) (js := [1]) rfl rfl (qi_tup (qe_ix ix_tup (qv 0) qe_int (fun _ _ => rfl))) (fun _ _ _ _ _ => qif_nil) (fun _ _ _ _ _ => (qe_call G_qkindof hr rfl X.m_qkindof X.F_qkindof.kp X.b_qkindof .nil pass0 (qaN (qv 0) (qaN (qv 1) qa_nil))))) qa_nil))))) qss_nil) (qss_cons (qs_if (qt_cmpR op_eq (qv 2) qe_str (nomark _)) (qss_one (qs_ret (qe_call G_qtoldkind hr rfl X.m_qtoldkind X.F_qtoldkind.kp X.b_qtoldkind .nil pass0 (qaT (qe_tup (qaS (qe_ix ix_tup (qv 0) qe_int (fun _ _ => rfl)) (qaS (qe_ix ix_tup (qv 0) qe_int (fun _ _ => rfl)) qa_nil))) (qaN (qv 1) qa_nil))))) qss_nil) (qss_cons (qs_if (qt_cmpR op_eq (qv 2) qe_str (nomark _)) (qss_one (qs_ret qe_str)) qss_nil) (qss_one (qs_ret (qv 2))))))), ?_⟩
    cases t with
    | call w ts =>
      unfold TmIs at ht
      obtain ⟨a, b, us, rfl, ha, hb, hn, hs⟩ := ht
      unfold Kd at hk
      obtain ⟨ks, hks, hmk⟩ := hk
      have l1 := hs.len
      have l2 := hks.len
      refine ⟨_, rfl, a, _, 0, .str "call", rfl, rfl, SqT.of ha, rfl, ?_⟩
      refine ⟨_, rfl, rfl, _, rfl, iteYd rfl ?_⟩
      refine ⟨_, rfl, a, _, 1, .str w, rfl, rfl, SqT.of ha, rfl, _, rfl, a, _, 2, .ref b, rfl, rfl, SqT.of ha, rfl, b, rfl, ⟨_, SqT.of hb⟩, fun D hD => ?_⟩
      refine comp_tupM (K := K) (xs := us) (ys := ks.map V.str) (fitsL (by omega)) (by rw [List.length_map]; omega) (SqT.of hb) hD (fun i x y G hx hy sm Q' q' => ?_) (fun G sm hD' => ?_)
      · obtain ⟨u, hu, hux⟩ := hs.get hx
        obtain ⟨k', hk', hku⟩ := hks.get hu
        have ey : y = .str k' := by rw [List.getElem?_map, hk'] at hy; exact (Option.some.inj hy).symm
        subst ey
        refine ⟨_, rfl, _, rfl, Ev, u, x, d, kvs, k', rfl, TmIs.same (sameT sm) u hux, ?_, sm _ _ hd, tl, hku, fun H3 s3 => q' H3 s3⟩
        have := depths_mem (List.mem_of_getElem? hu)
        rw [depth] at hdp
        omega
      · exact ⟨D, w, ks, kd, rfl, hD', hmk, fun H3 s3 => q H3 (sm.trans s3)⟩
    | val i z =>
      unfold TmIs at ht
      obtain ⟨a, rfl, ha⟩ := ht
      unfold Kd at hk
      refine ⟨_, rfl, a, _, 0, .str "of", rfl, rfl, SqT.of ha, rfl, ?_⟩
      refine ⟨_, rfl, rfl, _, rfl, iteNd (by decide) ?_⟩
      refine ⟨_, rfl, rfl, _, rfl, iteYd rfl ?_⟩
      refine ⟨_, rfl, a, _, 1, .int i, rfl, rfl, SqT.of ha, rfl, _, rfl, a, _, 2, .str z, rfl, rfl, SqT.of ha, rfl, (by show 2 <= sizeLine; decide), fun p hp => ?_⟩
      have s1 := same_new hp (.tup [.int i, .str z])
      exact ⟨_, rfl, p, d, kvs, i, z, kd, rfl, upd_same, s1 _ _ hd, tl i z kd hk, q _ s1⟩
    | mark =>
      unfold TmIs at ht
      obtain ⟨a, rfl, ha⟩ := ht
      unfold Kd at hk
      subst hk
      refine ⟨_, rfl, a, _, 0, .str "mark", rfl, rfl, SqT.of ha, rfl, ?_⟩
      refine ⟨_, rfl, rfl, _, rfl, iteNd (by decide) ?_⟩
      refine ⟨_, rfl, rfl, _, rfl, iteNd (by decide) ?_⟩
      refine ⟨_, rfl, rfl, _, rfl, iteYd rfl ?_⟩
      exact q H (Same.refl H)
    | num i =>
      unfold TmIs at ht
      obtain ⟨a, rfl, ha⟩ := ht
      unfold Kd at hk
      subst hk
      refine ⟨_, rfl, a, _, 0, .str "num", rfl, rfl, SqT.of ha, rfl, ?_⟩
      refine ⟨_, rfl, rfl, _, rfl, iteNd (by decide) ?_⟩
      refine ⟨_, rfl, rfl, _, rfl, iteNd (by decide) ?_⟩
      refine ⟨_, rfl, rfl, _, rfl, iteNd (by decide) ?_⟩
      exact ⟨_, rfl, q H (Same.refl H)⟩
    | text i =>
      unfold TmIs at ht
      obtain ⟨a, rfl, ha⟩ := ht
      unfold Kd at hk
      subst hk
      refine ⟨_, rfl, a, _, 0, .str "text", rfl, rfl, SqT.of ha, rfl, ?_⟩
      refine ⟨_, rfl, rfl, _, rfl, iteNd (by decide) ?_⟩
      refine ⟨_, rfl, rfl, _, rfl, iteNd (by decide) ?_⟩
      refine ⟨_, rfl, rfl, _, rfl, iteNd (by decide) ?_⟩
      exact ⟨_, rfl, q H (Same.refl H)⟩
    | row =>
      unfold TmIs at ht
      obtain ⟨a, rfl, ha⟩ := ht
      unfold Kd at hk
      subst hk
      refine ⟨_, rfl, a, _, 0, .str "row", rfl, rfl, SqT.of ha, rfl, ?_⟩
      refine ⟨_, rfl, rfl, _, rfl, iteNd (by decide) ?_⟩
      refine ⟨_, rfl, rfl, _, rfl, iteNd (by decide) ?_⟩
      refine ⟨_, rfl, rfl, _, rfl, iteNd (by decide) ?_⟩
      exact ⟨_, rfl, q H (Same.refl H)⟩
end
end K12
namespace L2
open PySem PySem.W PyProof.Rows
def Pm (n : Nat) (p : Array Nat) : Prop := p.Perm (List.toArray (List.range n))
theorem Pm.size {n : Nat} {p : Array Nat} (h : Pm n p) : p.size = n := by have := h.size_eq; simpa using this
theorem Pm.lt {n : Nat} {p : Array Nat} (h : Pm n p) {i : Nat} (hi : i < n) : p.getD i 0 < n := by
  have hs : i < p.size := by rw [h.size]; exact hi
  have e : p.getD i 0 = p[i] := by simp [Array.getD, hs]
  rw [e]
  have : p[i] ∈ (List.toArray (List.range n)).toList := (Array.perm_iff_toList_perm.mp h).mem_iff.mp (by simp)
  simpa using this
theorem Pm.rev {n : Nat} {p : Array Nat} (h : Pm n p) (i j : Nat) : Pm n (kas_rev p i j) := (mirror_perm p i j _).trans h
theorem Pm.bub {n : Nat} {p : Array Nat} (h : Pm n p) (k d : Nat) : Pm n (bubble p k d) := (bubble_perm p k d).trans h
theorem getD_of {p q : Array Nat} {i j : Nat} (h : p[i]? = q[j]?) : p.getD i 0 = q.getD j 0 := by
  rw [Array.getD_eq_getD_getElem?, Array.getD_eq_getD_getElem?, h]
theorem rev_at {p : Array Nat} {i j : Nat} (hj : j <= p.size) (k : Nat) : (kas_rev p i j).getD k 0 = if i <= k /\ k < j then p.getD (i + j - 1 - k) 0 else p.getD k 0 := by
  have := getElem?_mirror_all (i := i) hj k
  by_cases h : i <= k /\ k < j
  · rw [if_pos h] at this ⊢; exact getD_of this
  · rw [if_neg h] at this ⊢; exact getD_of this
theorem bub_at {p : Array Nat} {k d : Nat} (hs : k < p.size) (hd : d <= k) (x : Nat) : (bubble p k d).getD x 0 = if x = k - d then p.getD k 0 else if k - d < x /\ x <= k then p.getD (x - 1) 0 else p.getD x 0 := by
  have := getElem?_bubble hs d hd x
  by_cases h : x = k - d
  · rw [if_pos h] at this ⊢; exact getD_of this
  · rw [if_neg h] at this ⊢
    by_cases h2 : k - d < x /\ x <= k
    · rw [if_pos h2] at this ⊢; exact getD_of this
    · rw [if_neg h2] at this ⊢; exact getD_of this
def Up (f : Nat -> Int) (p : Array Nat) (m : Nat) : Prop := ∀ i j, i <= j -> j < m -> f (p.getD i 0) <= f (p.getD j 0)
def Dn (f : Nat -> Int) (p : Array Nat) (m : Nat) : Prop := ∀ i j, i <= j -> j < m -> f (p.getD j 0) <= f (p.getD i 0)
section
variable {n : Nat} {f : Nat -> Int} {cmp : Nat -> Nat -> (Bool -> Shared -> Prop) -> Shared -> Prop} {s : Shared}
def Asks (n : Nat) (f : Nat -> Int) (cmp : Nat -> Nat -> (Bool -> Shared -> Prop) -> Shared -> Prop) (s : Shared) : Prop := ∀ i j (C : Bool -> Shared -> Prop), i < n -> j < n -> C (decide (f i < f j)) s -> cmp i j C s
theorem Asks.at {α : Type} (hc : Asks n f cmp s) {i j : Nat} {k : Bool -> KasT α} {Q : α -> Shared -> Prop} (hi : i < n) (hj : j < n) (h1 : f i < f j -> (k true).kasWp cmp Q s) (h2 : ¬ f i < f j -> (k false).kasWp cmp Q s) : (KasT.ask i j k).kasWp cmp Q s := by
  refine hc i j _ hi hj ?_
  by_cases h : f i < f j
  · rw [decide_eq_true h]; exact h1 h
  · rw [decide_eq_false h]; exact h2 h
theorem asc_wp (hc : Asks n f cmp s) {p : Array Nat} (P : Pm n p) {G : Nat -> Shared -> Prop} : ∀ (g a : Nat), 1 <= a -> a + g <= n -> Up f p a -> (∀ m, a <= m -> m <= a + g -> Up f p m -> (m = a + g \/ f (p.getD m 0) < f (p.getD (m - 1) 0)) -> G m s) -> (kas_asc p g a).kasWp cmp G s
  | 0, a, h1, hn, u, h => h a (Nat.le_refl _) (by omega) u (.inl rfl)
  | g + 1, a, h1, hn, u, h => by
    unfold kas_asc
    refine hc.at (P.lt (by omega)) (P.lt (by omega)) (fun hl => ?_) (fun hl => ?_)
    · rw [if_pos rfl]
      exact h a (Nat.le_refl _) (by omega) u (.inr hl)
    · rw [if_neg (by simp)]
      refine asc_wp hc P g (a + 1) (by omega) (by omega) (fun i j hij hj => ?_) fun m m1 m2 um hor => h m (by omega) (by omega) um (by rcases hor with e | e; exact .inl (by omega); exact .inr e)
      by_cases hja : j < a
      · exact u i j hij hja
      · have : j = a := by omega
        subst this
        by_cases hi : i = j
        · subst hi; exact Int.le_refl _
        · have := u i (j - 1) (by omega) (by omega)
          omega
theorem tail_wp (hc : Asks n f cmp s) {p : Array Nat} (P : Pm n p) {G : Nat × Array Nat -> Shared -> Prop} {m : Nat} (h1 : 1 <= m) (hm : m <= n) (d : Dn f p m) (h : ∀ m' q, Pm n q -> 1 <= m' -> m' <= n -> Up f q m' -> G (m', q) s) : (kas_tail3 m n p).kasWp cmp G s := by
  unfold kas_tail3
  rw [KasT.kasWp_bind]
  refine asc_wp hc (P.rev 0 m) (n - m) m h1 (by omega) (fun i j hij hj => ?_) fun m' m1 m2 u _ => h m' _ (P.rev 0 m) (by omega) (by omega) u
  have hs : m <= p.size := by rw [P.size]; exact hm
  rw [rev_at hs, rev_at hs, if_pos (by omega), if_pos (by omega)]
  exact d _ _ (by omega) (by omega)
theorem eq_rev {p : Array Nat} {a b : Nat} (hs : b <= p.size) (e : ∀ i, a <= i -> i < b -> f (p.getD i 0) = f (p.getD (b - 1) 0)) (k : Nat) : f ((kas_rev p a b).getD k 0) = f (p.getD k 0) := by
  rw [rev_at hs]
  by_cases h : a <= k /\ k < b
  · rw [if_pos h, e _ (by omega) (by omega), e k h.1 h.2]
  · rw [if_neg h]
theorem desc_wp (hc : Asks n f cmp s) {G : Array Nat × Nat × Nat -> Shared -> Prop} : ∀ (g : Nat) (p : Array Nat) (x q : Nat), Pm n p -> 1 <= x -> x + g <= n -> Dn f p x -> q + 1 <= x -> (∀ i, x - (q + 1) <= i -> i < x -> f (p.getD i 0) = f (p.getD (x - 1) 0)) ->
    (∀ p' m q', Pm n p' -> 1 <= m -> m <= n -> Dn f p' m -> q' + 1 <= m -> (∀ i, m - (q' + 1) <= i -> i < m -> f (p'.getD i 0) = f (p'.getD (m - 1) 0)) -> G (p', m, q') s) -> (kas_desc g p x q).kasWp cmp G s
  | 0, p, x, q, P, h1, hn, d, hq, e, h => h p x q P h1 (by omega) d hq e
  | g + 1, p, x, q, P, h1, hn, d, hq, e, h => by
    unfold kas_desc
    have hs : x <= p.size := by rw [P.size]; omega
    refine hc.at (P.lt (by omega)) (P.lt (by omega)) (fun hl => ?_) (fun hl => ?_)
    · rw [if_pos rfl]
      have step : ∀ p' : Array Nat, (∀ k, f (p'.getD k 0) = f (p.getD k 0)) -> Dn f p' (x + 1) := fun p' hk i j hij hj => by
        rw [hk, hk]
        by_cases hjx : j < x
        · exact d i j hij hjx
        · have : j = x := by omega
          subst this
          by_cases hi : i = j
          · subst hi; exact Int.le_refl _
          · have := d i (j - 1) (by omega) (by omega)
            omega
      by_cases h0 : q > 0
      · rw [if_pos h0]
        exact desc_wp hc g _ (x + 1) 0 (P.rev _ _) (by omega) (by omega) (step _ (eq_rev hs e)) (by omega) (fun i h1 h2 => by congr 2; omega) h
      · rw [if_neg h0]
        exact desc_wp hc g p (x + 1) 0 P (by omega) (by omega) (step _ fun _ => rfl) (by omega) (fun i h1 h2 => by congr 2; omega) h
    · rw [if_neg (by simp)]
      refine hc.at (P.lt (by omega)) (P.lt (by omega)) (fun hg => ?_) (fun hg => ?_)
      · rw [if_pos rfl]
        exact h p x q P h1 (by omega) d hq e
      · rw [if_neg (by simp)]
        have ex : f (p.getD x 0) = f (p.getD (x - 1) 0) := by omega
        refine desc_wp hc g p (x + 1) (q + 1) P (by omega) (by omega) (fun i j hij hj => ?_) (by omega) (fun i h1 h2 => ?_) h
        · by_cases hjx : j < x
          · exact d i j hij hjx
          · have : j = x := by omega
            subst this
            by_cases hi : i = j
            · subst hi; exact Int.le_refl _
            · have := d i (j - 1) (by omega) (by omega)
              omega
        · rw [show x + 1 - 1 = x by omega]
          by_cases hix : i = x
          · subst hix; rfl
          · rw [ex]; exact e i (by omega) (by omega)
theorem part_wp (hc : Asks n f cmp s) {p : Array Nat} (P : Pm n p) {G : Nat × Array Nat -> Shared -> Prop} {m : Nat} (hm : m + 1 <= n) (d : Dn f p (m + 1)) (h : ∀ m' q, Pm n q -> 1 <= m' -> m' <= n -> Up f q m' -> G (m', q) s) : (kas_descPart m n p).kasWp cmp G s := by
  unfold kas_descPart
  rw [KasT.kasWp_bind]
  refine desc_wp hc (n - (m + 1)) p (m + 1) 0 P (by omega) (by omega) d (by omega) (fun i h1 h2 => by congr 2; omega) fun p' x q' P' x1 xn d' hq e => ?_
  dsimp only
  have hs : x <= p'.size := by rw [P'.size]; exact xn
  by_cases h0 : q' > 0
  · rw [if_pos h0]
    refine tail_wp hc (P'.rev _ _) x1 xn (fun i j hij hj => ?_) h
    rw [eq_rev hs e, eq_rev hs e]
    exact d' i j hij hj
  · rw [if_neg h0]
    exact tail_wp hc P' x1 xn d' h
theorem count_wp (hc : Asks n f cmp s) {p : Array Nat} (P : Pm n p) {G : Nat × Array Nat -> Shared -> Prop} (h1 : 1 <= n) (h : ∀ m' q, Pm n q -> 1 <= m' -> m' <= n -> Up f q m' -> G (m', q) s) : (kas_count n p).kasWp cmp G s := by
  unfold kas_count
  rw [KasT.kasWp_bind]
  refine asc_wp hc P (n - 1) 1 (Nat.le_refl _) (by omega) (fun i j hij hj => by rw [show i = j by omega]; exact Int.le_refl _) fun m m1 m2 u hor => ?_
  by_cases hmn : m = n
  · rw [if_pos (by simpa using hmn)]
    exact h m p P m1 (by omega) u
  · rw [if_neg (by simpa using hmn)]
    have hlt : f (p.getD m 0) < f (p.getD (m - 1) 0) := hor.resolve_left (by omega)
    have hs : m <= p.size := by rw [P.size]; omega
    by_cases hg : m > 1
    · rw [if_pos hg]
      refine hc.at (P.lt (by omega)) (P.lt (by omega)) (fun hl => ?_) (fun hl => ?_)
      · rw [if_pos rfl]
        exact h m p P m1 (by omega) u
      · rw [if_neg (by simp)]
        have hall : ∀ k, 0 <= k -> k < m -> f (p.getD k 0) = f (p.getD (m - 1) 0) := fun k _ hk => by
          have a1 := u 0 k (by omega) hk
          have a2 := u k (m - 1) (by omega) (by omega)
          omega
        refine part_wp hc (P.rev _ _) (by omega) (fun i j hij hj => ?_) h
        rw [eq_rev hs hall, eq_rev hs hall]
        by_cases hjm : j < m
        · rw [hall i (by omega) (by omega), hall j (by omega) hjm]; exact Int.le_refl _
        · have : j = m := by omega
          subst this
          by_cases hi : i = j
          · subst hi; exact Int.le_refl _
          · rw [hall i (by omega) (by omega)]; omega
    · rw [if_neg hg]
      have : m = 1 := by omega
      subst this
      refine part_wp hc P (by omega) (fun i j hij hj => ?_) h
      by_cases hi : i = j
      · subst hi; exact Int.le_refl _
      · have hi0 : i = 0 := by omega
        have hj1 : j = 1 := by omega
        subst hi0 hj1
        have : f (p.getD 1 0) < f (p.getD 0 0) := hlt
        omega
theorem place_wp (hc : Asks n f cmp s) {p : Array Nat} (P : Pm n p) {k : Nat} (hk : k < n) (u : Up f p k) {G : Nat -> Shared -> Prop} : ∀ (g l r : Nat), l <= r -> r <= k -> r - l <= g -> (∀ i, i < l -> f (p.getD i 0) <= f (p.getD k 0)) -> (∀ i, r <= i -> i < k -> f (p.getD k 0) < f (p.getD i 0)) ->
    (∀ l, l <= k -> (∀ i, i < l -> f (p.getD i 0) <= f (p.getD k 0)) -> (∀ i, l <= i -> i < k -> f (p.getD k 0) < f (p.getD i 0)) -> G l s) -> (kas_place p k g l r).kasWp cmp G s
  | 0, l, r, hlr, hr, hg, lo, hi, h => h l (by omega) lo (fun i h1 h2 => hi i (by omega) h2)
  | g + 1, l, r, hlr, hr, hg, lo, hi, h => by
    unfold kas_place
    by_cases hge : l >= r
    · rw [if_pos hge]
      exact h l (by omega) lo (fun i h1 h2 => hi i (by omega) h2)
    · rw [if_neg hge]
      refine hc.at (P.lt (by omega)) (P.lt (by omega)) (fun hl => ?_) (fun hl => ?_)
      · rw [if_pos rfl]
        refine place_wp hc P hk u g l ((l + r) / 2) (by omega) (by omega) (by omega) lo (fun i h1 h2 => ?_) h
        have := u ((l + r) / 2) i h1 h2
        omega
      · rw [if_neg (by simp)]
        refine place_wp hc P hk u g ((l + r) / 2 + 1) r (by omega) (by omega) (by omega) (fun i h1 => ?_) hi h
        have := u i ((l + r) / 2) (by omega) (by omega)
        omega
theorem bin_wp (hc : Asks n f cmp s) {G : Array Nat -> Shared -> Prop} (h : ∀ q, Pm n q -> Up f q n -> G q s) : ∀ (g : Nat) (p : Array Nat) (k : Nat), Pm n p -> k + g = n -> Up f p k -> (kas_bin g p k).kasWp cmp G s
  | 0, p, k, P, hk, u => h p P (by rw [show n = k by omega]; exact u)
  | g + 1, p, k, P, hk, u => by
    unfold kas_bin
    rw [KasT.kasWp_bind]
    refine place_wp hc P (by omega) u k 0 k (by omega) (Nat.le_refl _) (by omega) (fun i hi => by omega) (fun i h1 h2 => by omega) fun l hl lo hi => ?_
    refine bin_wp hc h g _ (k + 1) (P.bub _ _) (by omega) (fun i j hij hj => ?_)
    have hks : k < p.size := by rw [P.size]; omega
    rw [bub_at hks (by omega), bub_at hks (by omega), show k - (k - l) = l by omega]
    have ci : i < l \/ i = l \/ (l < i /\ i <= k) := by omega
    have cj : j < l \/ j = l \/ (l < j /\ j <= k) := by omega
    have ei : ∀ x, x < l -> (if x = l then p.getD k 0 else if l < x /\ x <= k then p.getD (x - 1) 0 else p.getD x 0) = p.getD x 0 := fun x hx => by rw [if_neg (by omega), if_neg (by omega)]
    have eh : ∀ x, l < x /\ x <= k -> (if x = l then p.getD k 0 else if l < x /\ x <= k then p.getD (x - 1) 0 else p.getD x 0) = p.getD (x - 1) 0 := fun x hx => by rw [if_neg (by omega), if_pos hx]
    rcases ci with ci | ci | ci
    · rw [ei i ci]
      rcases cj with cj | cj | cj
      · rw [ei j cj]; exact u _ _ hij (by omega)
      · rw [if_pos cj]; exact lo i ci
      · rw [eh j cj]; exact u _ _ (by omega) (by omega)
    · rw [if_pos ci]
      rcases cj with cj | cj | cj
      · omega
      · rw [if_pos cj]; exact Int.le_refl _
      · rw [eh j cj]; exact Int.le_of_lt (hi _ (by omega) (by omega))
    · rw [eh i ci]
      rcases cj with cj | cj | cj
      · omega
      · omega
      · rw [eh j cj]; exact u _ _ (by omega) (by omega)
theorem sort_wp (hc : Asks n f cmp s) {G : Array Nat -> Shared -> Prop} (h1 : 1 <= n) (h : ∀ q, Pm n q -> Up f q n -> G q s) : (kas_sort n).kasWp cmp G s := by
  unfold kas_sort
  rw [KasT.kasWp_bind]
  refine count_wp hc (Array.Perm.refl _) h1 fun m q P m1 mn u => ?_
  dsimp only
  by_cases hlt : m < n
  · rw [if_pos hlt]
    refine bin_wp hc h _ q _ P (by omega) ?_
    rw [show max m 1 = m by omega]
    exact u
  · rw [if_neg hlt]
    exact h q P (by rw [show n = m by omega]; exact u)
end
end L2
namespace L2
open PySem PySem.W PySem.Spec PyProof.Rows
structure SO {α : Type} (lt : α -> α -> Bool) : Prop where
  irr : ∀ a, lt a a = false
  as : ∀ a b, lt a b = true -> lt b a = false
  tr : ∀ x b a, lt x b = true -> lt a b = false -> lt x a = true
  an : ∀ a b, lt a b = false -> lt b a = false -> a = b
def rk {α : Type} (lt : α -> α -> Bool) (es : List α) (e : α) : Int := ((es.countP fun x => lt x e : Nat) : Int)
theorem countP_less {α : Type} {p q : α -> Bool} (h : ∀ x, p x = true -> q x = true) : ∀ {l : List α}, (∃ x ∈ l, q x = true /\ p x = false) -> l.countP p < l.countP q
  | [], ⟨_, m, _⟩ => nomatch m
  | y :: l, ⟨x, m, h1, h2⟩ => by
    have mono : l.countP p <= l.countP q := List.countP_mono_left fun x _ hx => h x hx
    rw [List.countP_cons, List.countP_cons]
    rcases List.mem_cons.mp m with rfl | m
    · rw [h1, h2]; simp; omega
    · have ih := countP_less h (l := l) ⟨x, m, h1, h2⟩
      by_cases hp : p y = true
      · rw [hp, h y hp]; simp; omega
      · rw [Bool.not_eq_true] at hp
        rw [hp]
        simp
        omega
theorem rk_lt {α : Type} {lt : α -> α -> Bool} (o : SO lt) {es : List α} {a b : α} (ha : a ∈ es) : decide (rk lt es a < rk lt es b) = lt a b := by
  cases h : lt a b with
  | false =>
    have : (es.countP fun x => lt x b) <= es.countP fun x => lt x a := List.countP_mono_left fun x _ hx => o.tr x b a hx h
    exact decide_eq_false (by unfold rk; omega)
  | true =>
    have : (es.countP fun x => lt x a) < es.countP fun x => lt x b := countP_less (fun x hx => o.tr x a b hx (o.as a b h)) ⟨a, ha, h, o.irr a⟩
    exact decide_eq_true (by unfold rk; omega)
theorem range_getD {α : Type} (es : List α) (d : α) : (List.range es.length).map (fun i => es.getD i d) = es := by
  refine List.ext_getElem (by simp) fun i h1 h2 => ?_
  simp [h2]
theorem sorted_of {α : Type} {lt : α -> α -> Bool} (o : SO lt) {es : List α} {d : α} {p : Array Nat} (P : Pm es.length p) (u : Up (fun i => rk lt es (es.getD i d)) p es.length) :
    (p.toList.map fun i => es.getD i d).Perm es /\ (p.toList.map fun i => es.getD i d).Pairwise (fun a b => lt b a = false) := by
  have hp : p.toList.Perm (List.range es.length) := by simpa using Array.perm_iff_toList_perm.mp P
  have hl : p.toList.length = es.length := by rw [hp.length_eq, List.length_range]
  refine ⟨by have := hp.map (fun i => es.getD i d); rwa [range_getD] at this, List.pairwise_iff_getElem.mpr fun i j hi hj hij => ?_⟩
  rw [List.length_map] at hi hj
  rw [List.getElem_map, List.getElem_map]
  have e : ∀ (k : Nat) (hk : k < p.toList.length), p.toList[k] = p.getD k 0 := fun k hk => by
    have hk' : k < p.size := by simpa using hk
    simp [Array.getD, hk']
  have h := u i j (Nat.le_of_lt hij) (by omega)
  have hm : es.getD (p.getD j 0) d ∈ es := by
    have := P.lt (i := j) (by omega)
    rw [List.getD_eq_getElem?_getD, List.getElem?_eq_getElem this]
    exact List.getElem_mem _
  rw [e i hi, e j hj, <- rk_lt o (b := es.getD (p.getD i 0) d) hm]
  exact decide_eq_false (by dsimp only at h; omega)
theorem sorted_one {α : Type} {lt : α -> α -> Bool} (o : SO lt) : ∀ {l₁ l₂ : List α}, l₁.Perm l₂ -> l₁.Pairwise (fun a b => lt b a = false) -> l₂.Pairwise (fun a b => lt b a = false) -> l₁ = l₂
  | [], l₂, h, _, _ => by rw [List.nil_perm.mp h]
  | a :: t, [], h, _, _ => by have := h.length_eq; simp at this
  | a :: t, b :: u, h, h1, h2 => by
    have hab : a = b := by
      rcases List.mem_cons.mp (h.mem_iff.mp (List.mem_cons_self)) with e | m
      · exact e
      · rcases List.mem_cons.mp (h.mem_iff.mpr (List.mem_cons_self)) with e | m'
        · exact e.symm
        · exact o.an a b ((List.pairwise_cons.mp h2).1 a m) ((List.pairwise_cons.mp h1).1 b m')
    subst hab
    rw [sorted_one o (List.Perm.cons_inv h) (List.pairwise_cons.mp h1).2 (List.pairwise_cons.mp h2).2]
section
variable {P : Program} {w : World} {A : Around} {E : Value -> Shared -> Prop} {s : Shared}
theorem list_sort_by {a : Addr} {vs : List Value} {n : Nat} {κ : SortKind} {f : Nat -> Int} {R : PySem.Fin -> Shared -> Prop} (ho : s.heap.get? a = some (seqObj "list" vs.toArray n)) (h64 : vs.length < 64)
    (hk : 2 <= vs.length -> ∀ h', (∀ b o, b ≠ a -> s.heap.get? b = some o -> h'.get? b = some o) -> ∀ (Q : SortKind -> Shared -> Prop) (E' : Value -> Shared -> Prop), Q κ { s with heap := h' } -> wpAny (model P w) A (keyKind' vs.toArray) Q E' { s with heap := h' })
    (hc : ∀ h', (∀ b o, b ≠ a -> s.heap.get? b = some o -> h'.get? b = some o) -> Asks vs.length f (kas_ask P w A κ vs) { s with heap := h' })
    (h : ∀ p, Pm vs.length p -> Up f p vs.length -> R (.done (.ret .none)) { s with heap := sortedHeap s.heap a vs (List.toArray (p.toList.map fun i => vs.getD i Value.none)) }) :
    wpAny (model P w) A (Builtin.«list.sort» ⟨[.ref a], []⟩) R E s := by
  have ha : a < s.heap.objs.size := Heap.lt_size ho
  rw [list_sort_plain]
  refine wpAny_bind (listItems_at ho rfl (wpAny_bind (listUpdate_at ho rfl ?_ (by rw [List.size_toArray, sizeLine_eq]; omega) (Nat.zero_le _))))
  obtain ⟨e1, ho1⟩ : ∃ e1, (s.heap.update a (Obj.mapSeq fun _ => (#[] : Array Value))).get? a = some (seqObj "list" #[] e1) := ⟨_, get?_update_seq ho fun _ => #[]⟩
  refine wpAny_bind (seqEpoch_at ho1 rfl (wpAny_bind (wpAny_newTuple (wpAny_bind (wpAny_newList (wpAny_holding ?_) (Nat.zero_le _))) (by show vs.length <= _; rw [sizeLine_eq]; omega))))
  have kp : ∀ b o, b ≠ a -> s.heap.get? b = some o -> (((s.heap.update a (Obj.mapSeq fun _ => (#[] : Array Value))).push (seqObj "tuple" vs.toArray 0)).push (seqObj "list" #[] 0)).get? b = some o := fun b o nb e =>
    Heap.get?_push_of_some _ (Heap.get?_push_of_some _ ((Heap.get?_update_other _ _ (Ne.symm nb)).trans e))
  have ho6 : (((s.heap.update a (Obj.mapSeq fun _ => (#[] : Array Value))).push (seqObj "tuple" vs.toArray 0)).push (seqObj "list" #[] 0)).get? a = some (seqObj "list" #[] e1) := Heap.get?_push_of_some _ (Heap.get?_push_of_some _ ho1)
  show wpAny (model P w) A _ R E { s with heap := ((s.heap.update a (Obj.mapSeq fun _ => (#[] : Array Value))).push (seqObj "tuple" vs.toArray 0)).push (seqObj "list" #[] 0) }
  dsimp only
  by_cases h2 : vs.toArray.size < 2
  · rw [if_pos h2, if_pos h2]
    have h2' : vs.length < 2 := by simpa using h2
    refine wpAny_bind (wpAny_pure ?_)
    rw [StateT.run_pure]
    refine wpAny_bind (wpAny_pure ?_)
    dsimp only
    have e0 : (Array.map (·.2) (vs.toArray.zip vs.toArray)) = List.toArray ((List.toArray (List.range vs.length)).toList.map fun i => vs.getD i Value.none) := by
      rw [show (List.toArray (List.range vs.length)).toList = List.range vs.length from rfl, range_getD]
      apply Array.toList_inj.mp
      have z : ∀ l : List Value, List.map (fun x : Value × Value => x.snd) (l.zip l) = l := fun l => by
        induction l with
        | nil => rfl
        | cons x l ih => rw [List.zip_cons_cons, List.map_cons, ih]
      simp [z]
    refine wpAny_bind (seqEpoch_at ho6 rfl (wpAny_bind (listUpdate_at ho6 rfl ?_ (Nat.zero_le _) ?_)))
    · simp only [bne_self_eq_false, Bool.false_eq_true, if_false]
      have := h (List.toArray (List.range vs.length)) (Array.Perm.refl _) fun i j hij hj => by rw [show i = j by omega]; exact Int.le_refl _
      rw [<- e0] at this
      exact wpAny_pure this
    · show (Array.map (·.2) (vs.toArray.zip vs.toArray)).size <= _
      rw [Array.size_map, sizeLine_eq]
      simp
      omega
  · have h2' : 2 <= vs.length := by simpa using h2
    rw [if_neg h2, if_neg h2]
    refine wpAny_bind (hk h2' _ kp _ _ ?_)
    refine wpAny_bind (wpAny_mono (kat_run (Q := fun st' s' => ∃ p : Array Nat, p.size = vs.length /\ arrOf st' = p.map (kas_item (vs.toArray.zip vs.toArray)) /\ failedOf st' = none /\ Pm vs.length p /\ Up f p vs.length /\ s' = { s with heap := ((s.heap.update a (Obj.mapSeq fun _ => (#[] : Array Value))).push (seqObj "tuple" vs.toArray 0)).push (seqObj "list" #[] 0) })
      (G := fun p s' => Pm vs.length p /\ Up f p vs.length /\ s' = { s with heap := ((s.heap.update a (Obj.mapSeq fun _ => (#[] : Array Value))).push (seqObj "tuple" vs.toArray 0)).push (seqObj "list" #[] 0) }) rfl h2' h64 (fun p' st' s' a1 a2 a3 a4 => ⟨p', a1, a2, a3, a4⟩) (sort_wp (hc _ kp) (by omega) fun q a1 a2 => ⟨a1, a2, rfl⟩)) ?_ fun _ _ x => x)
    rintro ⟨⟨⟩, st'⟩ s' ⟨p, hp, har, hf, p1, p2, rfl⟩
    dsimp only
    have hout := kat_snds (ks := vs) (vs := vs) rfl har
    rw [hout]
    refine wpAny_bind (seqEpoch_at ho6 rfl (wpAny_bind (listUpdate_at ho6 rfl ?_ (Nat.zero_le _) ?_)))
    · rw [hf]
      simp only [bne_self_eq_false, Bool.false_eq_true, if_false]
      exact wpAny_pure (h p p1 p2)
    · show (List.toArray (p.toList.map fun i => vs.getD i Value.none)).size <= _
      rw [List.size_toArray, List.length_map, Array.length_toList, hp, sizeLine_eq]
      omega
theorem sorted_by {l : Addr} {vs : List Value} {κ : SortKind} {f : Nat -> Int} {Q : Value -> Shared -> Prop} (hl : s.heap.IsList l vs.toArray) (h64 : vs.length < 64)
    (hk : 2 <= vs.length -> ∀ (A' : Around) h', (∀ b o, s.heap.get? b = some o -> h'.get? b = some o) -> ∀ (Q : SortKind -> Shared -> Prop) (E' : Value -> Shared -> Prop), Q κ { s with heap := h' } -> wpAny (model P w) A' (keyKind' vs.toArray) Q E' { s with heap := h' })
    (hc : ∀ (A' : Around) h', (∀ b o, s.heap.get? b = some o -> h'.get? b = some o) -> Asks vs.length f (kas_ask P w A' κ vs) { s with heap := h' })
    (h : ∀ p, Pm vs.length p -> Up f p vs.length -> Q (.ref (s.heap.objs.size + 1)) { s with heap := sortedAll s.heap vs (List.toArray (p.toList.map fun i => vs.getD i Value.none)) }) :
    wpAny (model P w) A (call (.builtin "sorted") [.ref l]) Q E s := by
  refine Calls.call_function_entry kind_sorted plain_sorted entry_sorted (args_sorted1 _) ?_
  unfold Builtin.«sorted»
  refine wpAny_bind (m := checkCount "sorted" 1 1 _) (wpAny_pure (wpAny_bind (collect_list hl (wpAny_bind (wpAny_newList ?_ (by rw [sizeLine_eq]; omega))) (by rw [sizeLine_eq]; omega))))
  have hsz : ((s.heap.push (seqObj "list" #[] 0)).update s.heap.objs.size (Obj.mapSeq (· ++ vs.toArray))).objs.size = s.heap.objs.size + 1 := (Heap.size_update ..).trans (size_push' ..)
  have hoL : (((s.heap.push (seqObj "list" #[] 0)).update s.heap.objs.size (Obj.mapSeq (· ++ vs.toArray))).push (seqObj "list" vs.toArray 0)).get? (s.heap.objs.size + 1) = some (seqObj "list" vs.toArray 0) := hsz ▸ Heap.get?_push_size _ rfl
  have keep : ∀ b o, s.heap.get? b = some o -> (((s.heap.push (seqObj "list" #[] 0)).update s.heap.objs.size (Obj.mapSeq (· ++ vs.toArray))).push (seqObj "list" vs.toArray 0)).get? b = some o := fun b o q =>
    Heap.get?_push_of_some _ ((Heap.get?_update_other _ _ (Ne.symm (Nat.ne_of_lt (Heap.lt_size q)))).trans (Heap.get?_push_of_some _ q))
  show wpAny _ _ _ _ _ { s with heap := ((s.heap.push (seqObj "list" #[] 0)).update s.heap.objs.size (Obj.mapSeq (· ++ vs.toArray))).push (seqObj "list" vs.toArray 0) }
  rw [hsz]
  have nb : ∀ b o, s.heap.get? b = some o -> b ≠ s.heap.objs.size + 1 := fun b o q => Nat.ne_of_lt (Nat.lt_succ_of_lt (Heap.lt_size q))
  refine wpAny_bind (wpAny_holding (wpAny_call_entry slot_list_sort ⟨_, hoL, rfl⟩ entry_list_sort (list_sort_by (κ := κ) (f := f) hoL h64 (fun h2 h' kp => hk h2 _ h' fun b o q => kp b o (nb b o q) (keep b o q)) (fun h' kp => hc _ h' fun b o q => kp b o (nb b o q) (keep b o q)) fun p p1 p2 => ⟨_, rfl, wpAny_pure ⟨_, rfl, h p p1 p2⟩⟩) (args_list_sort _)))
end
def ltP (a b : Int × Str) : Bool := if a.1 = b.1 then decide (a.2.cps.toList < b.2.cps.toList) else decide (a.1 < b.1)
theorem lst_tri {x y : List Nat} (h1 : ¬ x < y) (h2 : ¬ y < x) : x = y := List.le_antisymm (List.not_lt.mp h2) (List.not_lt.mp h1)
theorem so_P : SO ltP where
  irr a := by unfold ltP; rw [if_pos rfl]; exact decide_eq_false (List.lt_irrefl _)
  as a b h := by
    unfold ltP at h ⊢
    by_cases e : a.1 = b.1
    · rw [if_pos e] at h
      rw [if_pos e.symm]
      exact decide_eq_false (List.lt_asymm (of_decide_eq_true h))
    · rw [if_neg e] at h
      rw [if_neg (Ne.symm e)]
      have := of_decide_eq_true h
      exact decide_eq_false (by omega)
  tr x b a h1 h2 := by
    unfold ltP at *
    by_cases e1 : x.1 = b.1
    · rw [if_pos e1] at h1
      have h1 := of_decide_eq_true h1
      by_cases e2 : a.1 = b.1
      · rw [if_pos e2] at h2
        rw [if_pos (e1.trans e2.symm)]
        have h2 := of_decide_eq_false h2
        refine decide_eq_true (Classical.byContradiction fun h3 => ?_)
        exact absurd h1 (List.not_lt.mpr (List.le_trans (List.not_lt.mp h2) (List.not_lt.mp h3)))
      · rw [if_neg e2] at h2
        have h2 := of_decide_eq_false h2
        rw [if_neg (by omega)]
        exact decide_eq_true (by omega)
    · rw [if_neg e1] at h1
      have h1 := of_decide_eq_true h1
      have h3 : b.1 <= a.1 := by
        by_cases e2 : a.1 = b.1
        · omega
        · rw [if_neg e2] at h2
          have h2 := of_decide_eq_false h2
          omega
      rw [if_neg (by omega)]
      exact decide_eq_true (by omega)
  an a b h1 h2 := by
    unfold ltP at *
    by_cases e : a.1 = b.1
    · rw [if_pos e] at h1
      rw [if_pos e.symm] at h2
      have e2 := lst_tri (of_decide_eq_false h1) (of_decide_eq_false h2)
      have e3 : a.2 = b.2 := by
        cases ha : a.2 with
        | mk u =>
          cases hb : b.2 with
          | mk v =>
            rw [ha, hb] at e2
            have e4 : u = v := Array.toList_inj.mp e2
            rw [e4]
      exact Prod.ext e e3
    · rw [if_neg e] at h1
      rw [if_neg (Ne.symm e)] at h2
      have h1 := of_decide_eq_false h1
      have h2 := of_decide_eq_false h2
      omega
def TupV (h : Heap) (e : Int × Str) (v : Value) : Prop := ∃ a o t u n, v = .ref a /\ h.get? a = some o /\ o.cls = .type "tuple" /\ o.data = .seq #[.int e.1 t, .str e.2 u] n
section
variable {P : Program} {w : World} {A : Around} {E : Value -> Shared -> Prop} {s : Shared}
theorem ask_P {e1 e2 : Int × Str} {x y : Value} {C : Bool -> Shared -> Prop} (hx : TupV s.heap e1 x) (hy : TupV s.heap e2 y) (h : C (ltP e1 e2) s) : wpAny (model P w) A (keyLt' (tuples' true) x y) C E s := by
  obtain ⟨a, o, t, u, n, rfl, ha, _, da⟩ := hx
  obtain ⟨b, o', t', u', n', rfl, hb, _, db⟩ := hy
  refine kat_lt ha da hb db (kat_cons (wpAny_eqBool_int (kat_go (fun q => kat_yes (kat_cons (wpAny_eqBool_str (kat_go (fun q2 => kat_yes (kat_nil ?_)) (fun q2 => kat_no (kat_one _ _ (PyProof.Rows.lt_str ?_))))))) (fun q => kat_no (oneLt_int ?_)))))
  · have q : e1.1 = e2.1 := by simpa using q
    have q2 : e1.2 = e2.2 := by simpa using q2
    have : ltP e1 e2 = false := by unfold ltP; rw [if_pos q, q2]; exact decide_eq_false (List.lt_irrefl _)
    rw [this] at h
    exact h
  · have q : e1.1 = e2.1 := by simpa using q
    have : ltP e1 e2 = decide (e1.2.cps.toList < e2.2.cps.toList) := by unfold ltP; rw [if_pos q]
    rw [this] at h
    exact h
  · have q : e1.1 ≠ e2.1 := by simpa using q
    have : ltP e1 e2 = decide (e1.1 < e2.1) := by unfold ltP; rw [if_neg q]
    rw [this] at h
    exact h
theorem tups_P : ∀ {es : List (Int × Str)} {vs : List Value}, es.length = vs.length -> (∀ (i : Nat) e v, es[i]? = some e -> vs[i]? = some v -> TupV s.heap e v) -> ∃ fs, KatTups s.heap vs fs /\ fs.length = vs.length /\ ∀ v ∈ fs, ∃ i t, v = Value.int i t
  | [], [], _, _ => ⟨[], .nil, rfl, fun v h => nomatch h⟩
  | [], _ :: _, h, _ => by simp at h
  | _ :: _, [], h, _ => by simp at h
  | e :: es, v :: vs, hl, h => by
    obtain ⟨fs, a1, a2, a3⟩ := tups_P (es := es) (vs := vs) (by simpa using hl) fun i e v h1 h2 => h (i + 1) e v (by simpa using h1) (by simpa using h2)
    obtain ⟨a, o, t, u, n, rfl, ha, hc, hd⟩ := h 0 e v rfl rfl
    refine ⟨.int e.1 t :: fs, .cons ha hc hd rfl a1, by simp [a2], fun x hx => ?_⟩
    rcases List.mem_cons.mp hx with rfl | hx
    · exact ⟨_, _, rfl⟩
    · exact a3 x hx
theorem kind_P {es : List (Int × Str)} {vs : List Value} {Q : SortKind -> Shared -> Prop} (hl : es.length = vs.length) (h2 : 2 <= vs.length) (h : ∀ (i : Nat) e v, es[i]? = some e -> vs[i]? = some v -> TupV s.heap e v) (q : Q (tuples' true) s) : wpAny (model P w) A (keyKind' vs.toArray) Q E s := by
  obtain ⟨fs, a1, a2, a3⟩ := tups_P hl h
  refine kat_kind (T := .type "int") a1 (by omega) (fun v hv => ?_) (by decide) q
  obtain ⟨i, t, rfl⟩ := a3 v hv
  exact .now
end
section
variable {X : Cx}
theorem l2r_of {R : Int × Str -> V -> Prop} {es : List (Int × Str)} {us : List V} (h : TM.L2R R es us) (p : List Nat) (d : Int × Str) (v : V) (hp : ∀ i ∈ p, i < es.length) : TM.L2R R (p.map fun i => es.getD i d) (p.map fun i => us.getD i v) := by
  induction p with
  | nil => exact .nil
  | cons i p ih =>
    have hi := hp i (by simp)
    have hl := h.len
    obtain ⟨e, he⟩ := some_of_lt (xs := us) (i := i) (by omega)
    obtain ⟨x, hx, r⟩ := h.get he
    refine .cons ?_ (ih fun j hj => hp j (by simp [hj]))
    dsimp only
    rw [List.getD_eq_getElem?_getD, List.getD_eq_getElem?_getD, hx, he]
    exact r
theorem call_sortP : CallR X (.builtin "sorted") (fun xs H Q => ∃ (l : Addr) (es : List (Int × Str)) (us : List V), xs = [.ref l] /\ SqL X.K H l us /\ TM.L2R (TM.IsP H) es us /\ us.length < 64 /\ ∀ D es' us', H D = none -> es'.Perm es -> es'.Pairwise (fun a b => ltP b a = false) -> TM.L2R (TM.IsP H) es' us' -> us'.length = us.length -> Q (.ref D) (upd H D (.lst us'))) := by
  intro pins s σ H xs us Q I r h
  obtain ⟨l, es, vs, rfl, hq, hes, h64, q⟩ := h
  obtain ⟨u, rfl, ru⟩ := vals1 r
  cases ru
  obtain ⟨its, rv, pl, hz⟩ := I.list hq
  have hlen := rv.length
  have hle := hes.len
  have tv : ∀ (i : Nat) e v, es[i]? = some e -> its[i]? = some v -> TupV s.heap e v := fun i e v he hv => by
    obtain ⟨x, hx⟩ := some_of_lt (xs := vs) (i := i) (by have := lt_of_some hv; omega)
    obtain ⟨e', he', a, rfl, ha⟩ := hes.get hx
    rw [he] at he'
    cases he'
    obtain ⟨v', hv', rv'⟩ := rv.get hx
    rw [hv] at hv'
    cases hv'
    cases rv'
    obtain ⟨its2, rv2, pl2, _⟩ := I.tuple (SqT.of ha)
    obtain ⟨o, ho, hc, n, hd⟩ := pl2
    obtain ⟨u1, u2, rfl, ⟨t1, rfl⟩, ⟨t2, rfl⟩⟩ := vals2 rv2
    exact ⟨a, o, t1, t2, n, rfl, ho, hc, hd⟩
  have keepT : ∀ {h' : Heap}, (∀ b o, s.heap.get? b = some o -> h'.get? b = some o) -> ∀ (i : Nat) e v, es[i]? = some e -> its[i]? = some v -> TupV h' e v := fun kp i e v he hv => by
    obtain ⟨a, o, t, u, n, e1, e2, e3, e4⟩ := tv i e v he hv
    exact ⟨a, o, t, u, n, e1, kp _ _ e2, e3, e4⟩
  refine sorted_by (κ := tuples' true) (f := fun i => rk ltP es (es.getD i (0, ""))) pl.isList (by omega) (fun h2 A' h' kp Q' E' q' => kind_P (by omega) h2 (keepT kp) q') (fun A' h' kp i j C hi hj hC => ?_) fun p P1 U1 => ?_
  · obtain ⟨ei, hei⟩ := some_of_lt (xs := es) (i := i) (by omega)
    obtain ⟨ej, hej⟩ := some_of_lt (xs := es) (i := j) (by omega)
    obtain ⟨vi, hvi⟩ := some_of_lt (xs := its) (i := i) hi
    obtain ⟨vj, hvj⟩ := some_of_lt (xs := its) (i := j) hj
    unfold kas_ask
    have g : ∀ {α : Type} {l : List α} {k : Nat} {x d : α}, l[k]? = some x -> l.getD k d = x := fun h => by rw [List.getD_eq_getElem?_getD, h]; rfl
    rw [g hvi, g hvj]
    have hC : C (decide (rk ltP es (es.getD i (0, "")) < rk ltP es (es.getD j (0, "")))) _ := hC
    have e2 : decide (rk ltP es (es.getD i (0, "")) < rk ltP es (es.getD j (0, ""))) = ltP ei ej := by
      rw [rk_lt so_P (by rw [g hei]; exact List.mem_of_getElem? hei), g hei, g hej]
    rw [e2] at hC
    exact ask_P (keepT kp i ei vi hei hvi) (keepT kp j ej vj hej hvj) hC
  · have hn : its.length = es.length := by omega
    rw [hn] at P1 U1
    obtain ⟨s1, s2⟩ := sorted_of so_P P1 U1
    have hin : ∀ i ∈ p.toList, i < es.length := fun i hi => by
      have := (Array.perm_iff_toList_perm.mp P1).mem_iff.mp hi
      simpa using this
    have hpl : p.toList.length = es.length := by have := (Array.perm_iff_toList_perm.mp P1).length_eq; simpa using this
    obtain ⟨c, hc⟩ := sortedAll_at s.heap its (List.toArray (p.toList.map fun i => its.getD i Value.none))
    have L := l2r_of hes p.toList (0, "") V.non hin
    refine ⟨.ref (s.heap.objs.size + 1), _, I.laid (t' := s.toks) (fun b o e => sortedAll_old e) (Nat.le_succ _) (show ObjOk X.prog X.w _ _ _ (.lst (p.toList.map fun i => vs.getD i V.non)) from ⟨by rw [List.length_map]; omega, p.toList.map (fun i => its.getD i Value.none), c, ?_, hc⟩), rfl, q _ _ _ (I.hok.fresh (Nat.le_succ _)) s1 s2 L (by rw [List.length_map]; omega)⟩
    have key : ∀ (q : List Nat), (∀ i ∈ q, i < es.length) -> Vals (q.map fun i => vs.getD i V.non) (q.map fun i => its.getD i Value.none) := by
      intro q
      induction q with
      | nil => exact fun _ => .nil
      | cons i q ih =>
        intro hq'
        have hi := hq' i (by simp)
        obtain ⟨x, hx⟩ := some_of_lt (xs := vs) (i := i) (by omega)
        obtain ⟨v', hv', rv'⟩ := rv.get hx
        refine .cons ?_ (ih fun j hj => hq' j (by simp [hj]))
        dsimp only
        rw [List.getD_eq_getElem?_getD, List.getD_eq_getElem?_getD, hx, hv']
        exact rv'
    exact key _ hin
end
end L2
namespace L2
open PySem PySem.Spec PyProof.Rows
theorem ps_setCT {X : Cx} {elt iter tg : Expr} {ifs : List Expr} {sc : Scope} {pos py spos : Pos} {ts : List Str} {y : Str} {ys : List Str} {js : List Nat} {wi : TI} {g ga : TG} {tc : TT} {te : TE} (hc : X.calm = true) (hck : compChkT X.N X.env.scope sc ts ys js = true)
    (hi : PI X tg iter wi) (hg : ∀ cl C s H fp, PG (X.comp sc cl C (ts ++ ys) s H fp) tg g) (hf : ∀ cl C s H fp, PIf (X.comp sc cl C (ts ++ ys) s H fp) ifs tc) (he : ∀ cl C s H fp, PE (X.comp sc cl C (ts ++ ys) s H fp) elt te) (hga : PG X (.Name y py) ga)
    (hsw : swapsWith (.ListComp elt [⟨tg, iter, ifs, 0⟩] sc pos) (some (.Name y py)) spos.line X.env = pure true) (hs : ∀ x, foldedSetIterable iter X.env x = pure x := by intro _; rfl) :
    PS X (.Assign [.Name y py] (.ListComp elt [⟨tg, iter, ifs, 0⟩] sc pos) spos) (tAsg (tCompT wi g ts.length js tc te) ga) := by
  have ck := compOkT_of hck
  intro pins s σ H D0 I h
  have hfr : ∀ x, (x, NameKind.free) ∈ sc.names -> ∃ c, X.env.cells.lookup x = some c := fun x hx => I.ok.has x (.inl (ck.fre _ hx rfl))
  obtain ⟨cl, hcl, cl1, cl2⟩ := clos_ok hfr
  rw [exec_Assign_Name_used _ _ _ _ hsw]
  refine wpAny_bind (wpAny_standAt (wpAny_bind ?_))
  show wpAny _ X.A (do let _ <- comprehension (.ListComp elt [⟨tg, iter, ifs, 0⟩] sc pos) sc X.env _ (newList []) false (eval iter X.env) (some (assign (.Name y py) X.env))) _ _ s
  refine wpAny_bind (wpAny_mono (wpAny_comprehension_free (use := some (assign (.Name y py) X.env)) (Q := fun _ s' => SP X pins D0 .next s') rfl hs hcl ck.kind ck.loc (thn (hi pins s σ H _ I h) fun v s1 h1 => thn h1 fun itv s2 h2 => ?_)) (fun _ s' hq => wpAny_pure (wpAny_pure hq)) fun _ _ e => e)
  obtain ⟨it, fp, tn, J, H2, e, I2, T, st2, f2, hR⟩ := h2
  subst e
  refine wpAny_newObj_type (wpAny_newFunctionEnv ck.ncell (by intro y hy; simp at hy) (fun h1 hns hsb => ?_) ck.kind)
  dsimp only at hns hsb ⊢
  generalize hp : s2.heap.push { cls := .type "list", dict := none, data := .seq ([] : List Value).toArray } = hh at hns hsb ⊢
  have hC : hh.objs.size = s2.heap.objs.size + 1 := by rw [<- hp, Heap.size_push]
  have neD : ∀ {b : Addr}, b < s2.heap.objs.size -> b ≠ s2.heap.objs.size := fun hb => Nat.ne_of_lt hb
  have neC : ∀ {b : Addr}, b < s2.heap.objs.size -> b ≠ hh.objs.size := fun hb => by rw [hC]; exact Nat.ne_of_lt (Nat.lt_succ_of_lt hb)
  have hDC : s2.heap.objs.size ≠ hh.objs.size := by rw [hC]; exact Nat.ne_of_lt (Nat.lt_succ_self _)
  have hCle : s2.heap.objs.size <= hh.objs.size := by rw [hC]; exact Nat.le_succ _
  have old : ∀ b o, s2.heap.get? b = some o -> h1.get? b = some o := fun b o e => hsb.extBut b o (neC (Heap.lt_size e)) (Heap.get?_push_of_some _ (hp ▸ Heap.get?_push_of_some _ e))
  have hnew : h1.get? s2.heap.objs.size = some { cls := .type "list", dict := none, data := .seq ([] : List Value).toArray } := hsb.extBut _ _ hDC (Heap.get?_push_of_some _ (hp ▸ Heap.get?_push_size _ rfl))
  have fpH : ∀ b ∈ fp, ∃ o, s2.heap.get? b = some o := fun b hb => let ⟨o, e, _⟩ := T.obj 0 _ st2 b hb; ⟨o, e⟩
  have fpD : ∀ b ∈ fp, b ≠ s2.heap.objs.size := fun b hb => by obtain ⟨o, e⟩ := fpH b hb; exact neD (Heap.lt_size e)
  have fpC : ∀ b ∈ fp, b ≠ hh.objs.size := fun b hb => by obtain ⟨o, e⟩ := fpH b hb; exact neC (Heap.lt_size e)
  have fpS : ∀ b ∈ fp, b ∉ frs X.stack := fun b hb z => (List.mem_cons.mp (I2.stkSub b z)).elim (f2 b hb).2.1 (f2 b hb).2.2.1
  have hok' : (X.comp sc cl hh.objs.size (ts ++ ys) s2 H2 fp).Ok := by
    refine ⟨I2.ok.mod, ck.kind, I2.ok.glob, I2.ok.blt, hCle, fun x y c a b => I2.ok.inj x y c (cl1 x c a) (cl1 y c b), fun x hx => ?_, (fun x c z => nomatch z), I2.ok.hd, I2.ok.frames, .inl rfl, fun b hb => ⟨fpC b hb, fun x c a => (f2 b hb).2.2.2.2.1 x c (cl1 x c a)⟩,
      I2.bs, Nat.le_trans I2.ok.bsz I2.sz, fun b o e hb => ?_, fun b hb => fpS b hb, I2.stack, I2.stkFree⟩
    · have hx' : (sc.names.map fun (n, k) => if (k == NameKind.free && X.env.scope.kind == .function && X.env.kindOf n == some .cell) then (n, NameKind.cell) else (n, k)).lookup x = some .cell \/ (sc.names.map fun (n, k) => if (k == NameKind.free && X.env.scope.kind == .function && X.env.kindOf n == some .cell) then (n, NameKind.cell) else (n, k)).lookup x = some .free := hx
      rcases hx' with z | z
      · rcases relabel_inv z with q | ⟨_, q⟩
        · exact absurd rfl (ck.ncell _ (PySem.mem_of_lookup q))
        · exact cl2 x (PySem.mem_of_lookup q)
      · rcases relabel_inv z with q | ⟨q, _⟩
        · exact cl2 x (PySem.mem_of_lookup q)
        · cases q
    · rcases (f2 b hb).2.2.2.1 with z | z
      · exact I2.ok.noex b o e z
      · exact absurd (Nat.lt_of_lt_of_le (Heap.lt_size e) (Nat.le_trans I2.ok.bsz z)) (Nat.lt_irrefl _)
  have Iin : ∀ tk : Nat, Inv (X.comp sc cl hh.objs.size (ts ++ ys) s2 H2 fp) [] (List.replicate ts.length none ++ compS js σ) (upd H2 s2.heap.objs.size (.lst [])) { s2 with heap := h1, toks := tk } := fun tk => by
    refine ⟨hok', rfl, I2.bare, Un.laid old (Nat.le_refl _) I2.fresh, ⟨_, hns, fun i x v e1 e2 e3 => ?_⟩, fun x c e => ?_, ?_, fun x c e => ?_, fun p hp => absurd (show p ∈ ([] : List (Addr × Obj)) from hp) (by simp), I2.hok.laid old (Nat.le_refl _) ⟨Nat.zero_le _, [], 0, .nil, hnew⟩, ?_⟩
    · by_cases hik : i < ts.length
      · rw [List.getElem?_append_left (by rw [List.length_replicate]; exact hik), List.getElem?_replicate, if_pos hik] at e2
        cases e2
      · obtain ⟨k, rfl⟩ : ∃ k, i = ts.length + k := ⟨i - ts.length, by omega⟩
        have e1' : ys[k]? = some x := by
          have : (ts ++ ys)[ts.length + k]? = some x := e1
          rw [List.getElem?_append_right (by omega)] at this
          rw [<- this]
          congr 1
          omega
        have e2' : (compS js σ)[k]? = some (some v) := by
          rw [List.getElem?_append_right (by rw [List.length_replicate]; omega), List.length_replicate] at e2
          rw [<- e2]
          congr 1
          omega
        unfold compS at e2'
        rw [List.getElem?_map] at e2'
        have q := congrArg (fun l => l[k]?) ck.ysj
        simp only [List.getElem?_map, e1', Option.map_some] at q
        cases hj : js[k]? with
        | none => rw [hj] at q; cases q
        | some j =>
          rw [hj] at q e2'
          have q1 : X.N[j]? = some x := (Option.some.inj q).symm
          have q2 : σ[j]? = some (some v) := by
            have z : (σ[j]?).join = some v := Option.some.inj e2'
            cases hz : σ[j]? with
            | none => rw [hz] at z; cases z
            | some y => rw [hz] at z; exact congrArg some z
          have hf' := ck.ysf x (List.mem_of_getElem? e1')
          have hcell := ck.fre _ (PySem.mem_of_lookup hf') rfl
          obtain ⟨m2, hn2, hl2⟩ := I2.loc
          obtain ⟨u, ru, lk⟩ := hl2 j x v q1 q2 (.inr (.inl hcell))
          refine ⟨u, ru, ?_⟩
          rcases lk with ⟨kk, _⟩ | ⟨_, c, ec, ic⟩
          · have kk' : X.env.scope.names.lookup x = some .local := kk
            have hcell' : X.env.scope.names.lookup x = some .cell := hcell
            rw [hcell'] at kk'; cases kk'
          · obtain ⟨c', ec'⟩ := cl2 x (PySem.mem_of_lookup hf')
            have : c' = c := Option.some.inj ((cl1 x c' ec').symm.trans ec)
            subst this
            refine .inr ⟨relabel_free hf', c', ec', ?_⟩
            obtain ⟨o, ho, hd⟩ := ic
            exact ⟨o, old _ o ho, hd⟩
    · obtain ⟨v, o, ho, hd⟩ := I2.cell x c (cl1 x c e)
      exact ⟨v, o, old _ o ho, hd⟩
    · show upd H2 s2.heap.objs.size _ hh.objs.size = none
      rw [upd_ne (Ne.symm hDC)]
      exact I2.hok.fresh hCle
    · obtain ⟨v, o, ho, hd⟩ := I2.cell x c (cl1 x c e)
      rw [upd_ne (neD (Heap.lt_size ho))]
      exact I2.freeC x c (cl1 x c e)
    · show (List.replicate ts.length none ++ compS js σ).length = (ts ++ ys).length
      have q := congrArg List.length ck.ysj
      simp only [List.length_map] at q
      unfold compS
      simp only [List.length_append, List.length_replicate, List.length_map]
      omega
  have st1 : tn 0 h1 := T.keep _ _ _ st2 fun b hb o e => old b o e
  obtain ⟨W, ⟨m0, w0⟩, turn⟩ := hR s2.heap.objs.size I2.fresh
  have fpok : ∀ {H' : Hp}, (∀ b ∈ fp, H' b = none) -> ∀ b ∈ fp, FpOk (X.comp sc cl hh.objs.size (ts ++ ys) s2 H2 fp) [] H' b := fun hn b hb =>
    ⟨hn b hb, fpC b hb, fpS b hb, .inl hb, fun x c a => (f2 b hb).2.2.2.2.1 x c (cl1 x c a), fun p hp => absurd (show p ∈ ([] : List (Addr × Obj)) from hp) (by simp)⟩
  have loop : ∀ s3 : Shared, s3 = { s2 with heap := h1, toks := s2.toks + ([] : List (Str × Value)).length } ->
      codeAny (model X.prog X.w) X.A (.compLoop (.ListComp elt [⟨tg, iter, ifs, 0⟩] sc pos) 0 (.ref it) (.ref s2.heap.objs.size) (compEnvC sc cl hh.objs.size X.env))
        (compPost (model X.prog X.w) X.A X.xe (some (assign (.Name y py) X.env)) (fun _ s' => SP X pins D0 .next s') (.ref s2.heap.objs.size) hh.objs.size) s3 := by
    rintro s3 rfl
    refine comp_turns (fun n s' => ∃ i acc H', Inv (X.comp sc cl hh.objs.size (ts ++ ys) s2 H2 fp) [] (List.replicate ts.length none ++ compS js σ) H' s' /\ tn i s'.heap /\ (∀ b ∈ fp, H' b = none) /\ W i n acc H') ?_ m0
      ⟨0, [], _, Iin _, st1, fun b hb => by rw [upd_ne (fpD b hb)]; exact (f2 b hb).1, w0⟩
    rintro n s3 ⟨i, acc, H3, I3, st3, fr3, w3⟩
    obtain ⟨hD, hz, alt⟩ := turn i n acc H3 w3
    rcases alt with ⟨stop, q⟩ | ⟨go, step⟩
    · refine thn (T.done (X.comp sc cl hh.objs.size (ts ++ ys) s2 H2 fp) rfl rfl rfl hc i [] s3 _ H3 _ I3 (fpok fr3) st3 stop) fun r s4 ⟨hr, I4⟩ => ?_
      subst hr
      obtain ⟨m, hn, _⟩ := id I4.loc
      have ltC : ∀ b o, s2.heap.get? b = some o -> b ≠ hh.objs.size := fun b o e => neC (Heap.lt_size e)
      have b4 : Un (frs X.stack) fp H2 H3 s2.heap s4.heap := I4.base
      have I5 : Inv X pins σ H3 s4 := I2.call' (s' := s4) (ch := fp) I4.os ⟨fun b o e n1 n2 n3 => b4.keep b o e n1 n2 n3, fun b o e n1 n2 n3 => b4.slot b o e n1 n2 n3, b4.free, fun b o e n1 => b4.there b o e n1, b4.tups, b4.frzs, b4.tbls⟩ (fun b ob e => I4.hok b ob e) I4.bare
        (fun b hb => ⟨(f2 b hb).2.2.2.1, (f2 b hb).2.1, (f2 b hb).2.2.2.2.1, (f2 b hb).2.2.2.2.2⟩)
      have fC : FpOk X pins H3 hh.objs.size := I2.fpOk hCle I4.free
      obtain ⟨oC, es, ep, hoC, dC, rC⟩ := id hn
      have I6 : Inv X (pins ++ [(hh.objs.size, oC)]) σ H3 s4 := I5.pins_of fun p hp => (List.mem_append.mp hp).elim (fun z => I5.pin p (List.mem_append_right _ z)) fun z => by
        rw [List.mem_singleton.mp z]
        exact ⟨hoC, fC.1, fC.2.1, fC.2.2.1, fun v z => by rw [dC] at z; cases z⟩
      show wpAny _ X.A (assign (.Name y py) X.env (.ref s2.heap.objs.size)) _ _ s4
      refine thn (hga _ s4 σ H3 (.ref s2.heap.objs.size) _ _ I6 rfl q) fun _ s7 ⟨σ7, H7, I7, q7⟩ => ?_
      obtain ⟨p1, p2, p3, p4, p5⟩ := I7.pin (hh.objs.size, oC) (List.mem_append_right _ (List.mem_append_right _ (List.mem_singleton.mpr rfl)))
      refine ⟨m, ⟨oC, es, ep, p1, dC, rC⟩, fun h' sb => ⟨σ7, H7, ?_, q7⟩⟩
      exact I7.unpinned.turned (t' := s7.toks) (fun b o hb e => (sb.2 b hb).trans e) p2 p3 fC.2.2.2.1 fC.2.2.2.2.1 fC.2.2.2.2.2
    · refine thn (T.item (X.comp sc cl hh.objs.size (ts ++ ys) s2 H2 fp) rfl rfl rfl hc i [] s3 _ H3 _ I3 (fpok fr3) st3 go) fun r s4 ⟨u, hr, h4⟩ => ?_
      subst hr
      refine thn h4 fun _ s5 ⟨x, H5, I5, r5, y5, st5, fr5⟩ => ?_
      have I5' := I5.pinned (fpok fr5) (T.obj _ _ st5)
      refine thn (hg _ _ _ _ _ _ s5 _ H5 x _ _ I5' r5 (step x H5 y5)) fun _ s6 ⟨σ6, H6, I6, us, hul, hus, q6⟩ => ?_
      subst hus
      have again : ∀ {H7 : Hp} {s7 : Shared} {m' : Nat} {acc' : List V}, Inv (X.comp sc cl hh.objs.size (ts ++ ys) s2 H2 fp) ([] ++ pinsAt fp s5.heap) (us ++ compS js σ) H7 s7 -> m' < n -> W (i + 1) m' acc' H7 ->
          ∃ m, m < n /\ ∃ i acc H', Inv (X.comp sc cl hh.objs.size (ts ++ ys) s2 H2 fp) [] (List.replicate ts.length none ++ compS js σ) H' s7 /\ tn i s7.heap /\ (∀ b ∈ fp, H' b = none) /\ W i m acc H' := fun {H7 s7 m' acc'} I7 hm w7 => by
        refine ⟨m', hm, i + 1, acc', H7, (I7.unpinned).weak (by rw [List.length_append, List.length_append, List.length_replicate, hul]) (fun k v e => ?_), T.keep _ _ _ st5 fun b hb o e => (I7.pin (b, o) (List.mem_append_right _ (List.mem_append_right _ (mem_pinsAt hb e)))).1, fun b hb => ?_, w7⟩
        · by_cases hk : k < ts.length
          · rw [List.getElem?_append_left (by rw [List.length_replicate]; exact hk), List.getElem?_replicate, if_pos hk] at e
            cases e
          · rw [List.getElem?_append_right (by rw [List.length_replicate]; omega), List.length_replicate] at e
            rw [List.getElem?_append_right (by omega), hul]
            exact e
        · obtain ⟨o, e, d⟩ := T.obj _ _ st5 b hb
          exact (I7.pin (b, o) (List.mem_append_right _ (List.mem_append_right _ (mem_pinsAt hb e)))).2.1
      refine thn (hf _ _ _ _ _ _ s6 _ H6 _ I6 q6) fun ok s7 ⟨H7, I7, q7⟩ => ?_
      cases ok with
      | false =>
        obtain ⟨m', hm, w7⟩ := q7
        exact again I7 hm w7
      | true =>
        refine thn (he _ _ _ _ _ _ s7 _ H7 _ I7 q7) fun uy s8 ⟨y, H8, I8, r8, hD8, m', hm, w8⟩ => ?_
        refine thn (mt_append (X := X.comp sc cl hh.objs.size (ts ++ ys) s2 H2 fp) _ s8 _ H8 (.ref s2.heap.objs.size) [y] (.ref s2.heap.objs.size) [uy] (fun _ H9 => W (i + 1) m' (acc ++ [y]) H9) I8 rfl (.cons r8 .nil) ⟨_, acc, y, rfl, rfl, hD8, hz, w8⟩) fun _ s9 ⟨_, H9, I9, _, q9⟩ => ?_
        exact again I9 hm q9
  exact codeAny_compStart_list (loop _ rfl) (T.self _ 0 _ _ _ st1 (loop _ rfl))
theorem qs_setCT {X : Cx} {elt iter tg : Expr} {ifs : List Expr} {sc : Scope} {pos py spos : Pos} {ts : List Str} {y : Str} {ys : List Str} {js : List Nat} {wi : TI} {g ga : TG} {tc : TT} {te : TE} (hc : X.calm = true) (hck : compChkT X.N X.env.scope sc ts ys js = true)
    (hi : QI X tg iter wi) (hg : ∀ cl C s H fp, QG (X.comp sc cl C (ts ++ ys) s H fp) tg g) (hf : ∀ cl C s H fp, QIf (X.comp sc cl C (ts ++ ys) s H fp) ifs tc) (he : ∀ cl C s H fp, QE (X.comp sc cl C (ts ++ ys) s H fp) elt te) (hga : QG X (.Name y py) ga)
    (hsw : swapsWith (.ListComp elt [⟨tg, iter, ifs, 0⟩] sc pos) (some (.Name y py)) spos.line X.env = pure true) (hs : ∀ x, foldedSetIterable iter X.env x = pure x := by intro _; rfl) :
    QS X (.Assign [.Name y py] (.ListComp elt [⟨tg, iter, ifs, 0⟩] sc pos) spos) (tAsg (tCompT wi g ts.length js tc te) ga) := ⟨ps_setCT hc hck hi.h (fun cl C s H fp => (hg cl C s H fp).h) (fun cl C s H fp => (hf cl C s H fp).h) (fun cl C s H fp => (he cl C s H fp).h) hga.h hsw hs⟩
end L2
namespace K12
open PySem L2
open TM 
structure FormV (g : Gr) (f : Fm) (ss : List Sg) : Prop where
  mem : ∀ s ∈ ss, s ∈ g.sg
  fm : FmG f ss
  l1 : 1 <= ss.length
  l4 : ss.length <= 4
structure SgsV (sg : List Sg) : Prop where
  g : ∀ s ∈ sg, SgG s
  nd : (sg.map Sg.nm).Nodup
  l1 : 1 <= sg.length
  l6 : sg.length <= 6
structure GrV (g : Gr) : Prop where
  sg : SgsV g.sg
  fm : ∀ f ∈ g.fm, ∃ ss, FormV g f ss
  nd : (g.fm.map Fm.nm).Nodup
  l10 : g.fm.length <= 10
theorem grv_n {g : Gr} (gg : GrV g) : GrN g := ⟨gg.sg.nd, fun s hs => (gg.sg.g s hs).tx, by have := gg.sg.l6; omega, fun s hs => (gg.sg.g s hs).nd, fun s hs => ⟨by have := (gg.sg.g s hs).ld; omega, by have := (gg.sg.g s hs).lu; omega⟩⟩
theorem fm_br {g : Gr} {f : Fm} {ss : List Sg} (h : FormV g f ss) : f.br.length + 1 = ss.length := by
  have := congrArg List.length h.fm.nm
  rw [List.length_map, List.length_cons] at this
  omega
theorem fm_ru {g : Gr} {f : Fm} {ss : List Sg} (gg : GrV g) (h : FormV g f ss) : f.ru.length <= 8 := by
  have h1 := h.fm.ru.length_eq
  rw [List.length_map, due_eq] at h1
  have h2 := duesF_len ss 0 fun s hs => gg.sg.g s (h.mem s hs)
  have := h.l4
  omega
theorem valV_mem {κ : Type} [DecidableEq κ] : ∀ {kvs : List (κ × V)} {k : κ} {v : V}, (kvs.map (·.1)).Nodup -> (k, v) ∈ kvs -> valV kvs k = some v
  | [], k, v, _, h => nomatch h
  | (k', v') :: r, k, v, nd, h => by
    rw [List.map_cons, List.nodup_cons] at nd
    rcases List.mem_cons.mp h with e | h
    · cases e
      exact valV_pos rfl
    · have ne : ¬ k' = k := fun z => nd.1 (z ▸ List.mem_map.mpr ⟨(k, v), h, rfl⟩)
      rw [valV_neg ne]
      exact valV_mem nd.2 h
theorem vl_vals : ∀ (ss : List Sg) (k : Nat) {i : Int} {z kd : Str} {b : Int}, (i, z, kd, b) ∈ vlF k ss -> ∃ n : Nat, i = (n : Int) /\ (n, z, kd) ∈ valsF k ss
  | [], k, i, z, kd, b, h => by rw [vlF] at h; cases h
  | s :: r, k, i, z, kd, b, h => by
    rw [vlF] at h
    rw [valsF]
    rcases List.mem_append.mp h with h | h
    · rcases List.mem_append.mp h with h | h
      · unfold sideV at h
        obtain ⟨p, hp, e⟩ := List.mem_map.mp h
        cases e
        exact ⟨k, rfl, List.mem_append.mpr (.inl (List.mem_map.mpr ⟨p, List.mem_append.mpr (.inl hp), rfl⟩))⟩
      · unfold sideV at h
        obtain ⟨p, hp, e⟩ := List.mem_map.mp h
        cases e
        exact ⟨k, rfl, List.mem_append.mpr (.inl (List.mem_map.mpr ⟨p, List.mem_append.mpr (.inr hp), rfl⟩))⟩
    · obtain ⟨n, e, m⟩ := vl_vals r (k + 1) h
      exact ⟨n, e, List.mem_append.mpr (.inr m)⟩
theorem vals_ge : ∀ (ss : List Sg) (k : Nat), ∀ e ∈ valsF k ss, k <= e.1
  | [], k, e, h => by rw [valsF] at h; cases h
  | s :: r, k, e, h => by
    rw [valsF] at h
    rcases List.mem_append.mp h with h | h
    · obtain ⟨p, _, rfl⟩ := List.mem_map.mp h
      exact Nat.le_refl k
    · have := vals_ge r (k + 1) e h
      omega
theorem vals_nd : ∀ (ss : List Sg) (k : Nat), (∀ s ∈ ss, ((s.dn ++ s.up).map Prod.fst).Nodup) -> (((valsF k ss).map kvOf).map (·.1)).Nodup
  | [], k, _ => by rw [valsF]; exact List.nodup_nil
  | s :: r, k, h => by
    rw [valsF, List.map_append, List.map_append, List.nodup_append]
    refine ⟨?_, vals_nd r (k + 1) fun x hx => h x (by simp [hx]), fun a ha b hb => ?_⟩
    · have h1 := h s (by simp)
      rw [List.map_map, List.map_map]
      have h2 := List.Pairwise.map (S := fun a b : List Key => a ≠ b) (fun z : Str => ([Sum.inl (k : Int), Sum.inr z] : List Key)) (fun a b hab e => hab (by simpa using e)) h1
      rw [List.map_map] at h2
      exact h2
    · rintro rfl
      obtain ⟨x, hx, rfl⟩ := List.mem_map.mp ha
      obtain ⟨y, hy, rfl⟩ := List.mem_map.mp hx
      obtain ⟨p, _, rfl⟩ := List.mem_map.mp hy
      obtain ⟨u, hu, e⟩ := List.mem_map.mp hb
      obtain ⟨v, hv, rfl⟩ := List.mem_map.mp hu
      have := vals_ge r (k + 1) v hv
      have e1 : v.1 = k := by
        have e : [Sum.inl (v.1 : Int), Sum.inr v.2.1] = ([Sum.inl (k : Int), Sum.inr p.1] : List Key) := e
        have := Sum.inl.inj (List.cons.inj e).1
        omega
      omega
theorem tells_EV {g : Gr} (gg : GrV g) {ss : List Sg} (hm : ∀ s ∈ ss, s ∈ g.sg) : Tells (EV ss) ((valsF 0 ss).map kvOf) := fun i z kd ⟨b, hb⟩ => by
  obtain ⟨n, rfl, m⟩ := vl_vals ss 0 hb
  exact valV_mem (vals_nd ss 0 fun s hs => (gg.sg.g s (hm s hs)).nd) (List.mem_map.mpr ⟨(n, z, kd), m, rfl⟩)
theorem isds_PL {K : PySem.W.Frag} {H : Hp} : ∀ {es : List Pr} {us : List V}, L2R (IsP H) es us -> Isds K H (es.map daP) us
  | _, _, .nil => isds_nil
  | _, _, .cons h r => isds_cons (isd_P h) (isds_PL r)
theorem eqDs_PL : ∀ es : List Pr, eqDs (es.map daP) (es.map daP) = true
  | [] => by unfold eqDs; rfl
  | e :: es => by
    rw [List.map_cons]
    unfold eqDs
    rw [eqD_P, eqDs_PL es]
    simp
def spCfs : Sp := fun vs H Q _ => ∃ (g : Gr) (f : Fm) (ss : List Sg) (v : V), vs = [v] /\ FmIs H f v /\ GrV g /\ FormV g f ss /\ ∀ H', Same H H' -> Q .non H'
def spCap : Sp := fun vs H Q _ => ∃ (a : Addr) (nms : List Str) (us : List V), vs = [.ref a] /\ H a = some (.tup us) /\ L2R (NmAt H) nms us /\ nms.Nodup /\ us.length <= 900 /\ ∀ H', Same H H' -> Q .non H'
def spCfn : Sp := fun vs H Q _ => ∃ (E : KEnv) (g : Gr) (f : Fm) (ss : List Sg) (v : V) (d : Addr) (kvs : List (List Key × V)), vs = [v, .ref d] /\ FmIs H f v /\ GrV g /\ FormV g f ss /\ H d = some (.dT kvs) /\ Tells (EV ss) kvs /\ ∀ H', Same H H' -> Q .non H'
def spChk : Sp := fun vs H Q _ => ∃ (g : Gr) (v : V), vs = [v] /\ GrIs H g v /\ GrV g /\ ∀ H', Same H H' -> Q .non H'
def spLetBy : Sp := fun vs H Q _ => ∃ (g : Gr) (v : V), vs = [v] /\ GrIs H g v /\ GrV g /\ ∀ H', Same H H' -> Q v H'
section
variable {P : Program} {w : World} {K : PySem.W.Frag} {mg : Str -> Option Value} {base : Heap} {T : Adr}
theorem ok_cfs (X : Tx K w mg T) : FnOk P w K mg base CX0 9 T.qcheckformsize T.d_qcheckformsize ["form"] spCfs := by
  have G_qparts := ok_parts (P := P) (w := w) (base := base) X 6
  have G_qdepth := ok_depth (P := P) (w := w) (base := base) X 6
  refine X.F_qcheckformsize.okQ sc_qcheckformsize (fun vs H Q E h => ?_) (fun cdv A outer s H vs Q E hr h => ?_)
  · obtain ⟨_, _, _, _, rfl, _⟩ := h
    rfl
  obtain ⟨g, f, ss, v, rfl, hf, gg, fv, q⟩ := h
  obtain ⟨fp, fa, fb, fus, rfl, hfp, hfa, hfb, hru⟩ := hf
  have lb := fm_br fv
  have l4 := fv.l4
  refine ⟨_, (qss_cons (qs_set (i := 1) sc_qcheckformsize.nd rfl (Or.inl rfl) (qe_ix ix_tup (qv 0) qe_int (fun _ _ => rfl))) (qss_cons (qs_if (qt_cmpR op_gt (qe_callB call_len_seq rfl X.z_len PySem.boot_len (qaS (qe_ix ix_tup (qv 0) qe_int (fun _ _ => rfl)) qa_nil)) (qe_glob rfl X.c_MOST_BRANCHES (v := V.int 3) ⟨_, rfl⟩) (nomark _)) qss_never qss_nil) (qss_one (qs_for PassesOwn.never rfl (qi_tup (qe_ix ix_tup (qv 0) qe_int (fun _ _ => rfl))) (qg_tup rfl (qgs_cons (qg_name (i := 2) sc_qcheckformsize.nd rfl (Or.inl rfl)) (qgs_cons (qg_name (i := 3) sc_qcheckformsize.nd rfl (Or.inl rfl)) (qgs_cons (qg_name (i := 4) sc_qcheckformsize.nd rfl (Or.inl rfl)) qgs_nil)))) (qss_one (qs_if (qw_pt (qw_or (qt_cmpR op_gt (qe_call G_qparts hr rfl X.m_qparts X.F_qparts.kp X.b_qparts .nil pass0 (qaN (qv 4) qa_nil)) (qe_glob rfl X.c_MOST_PARTS (v := V.int 30) ⟨_, rfl⟩) (nomark _)) (qw_or1 (qt_cmpR op_gt (qe_call G_qdepth hr rfl X.m_qdepth X.F_qdepth.kp X.b_qdepth .nil pass0 (qaN (qv 4) qa_nil)) (qe_glob rfl X.c_MOST_DEPTH (v := V.int 6) ⟨_, rfl⟩) (nomark _))))) qss_never qss_nil)))))), ?_⟩
  refine ⟨_, rfl, fp, _, 0, .str f.nm, rfl, rfl, SqT.of hfp, rfl, ?_⟩
  refine ⟨_, rfl, fp, _, 2, .ref fa, rfl, rfl, SqT.of hfp, rfl, fa, _, rfl, .inr (SqT.of hfa), _, _, rfl, rfl, _, rfl, iteN (decide_eq_false (by rw [List.length_map]; omega)) ?_⟩
  refine ⟨_, rfl, fp, _, 3, .ref fb, rfl, rfl, SqT.of hfp, rfl, fb, rfl, ⟨_, SqT.of hfb⟩, ?_⟩
  refine for_tup (K := K) (a := fb) (xs := fus) (fun i σ H' => Same H H' /\ ∃ x2 x3 x4 : Option V, σ = [some (.ref fp), some (.str f.nm), x2, x3, x4]) ⟨Same.refl _, none, none, none, rfl⟩ (fun i σ H' _ ⟨sm, _⟩ => SqT.of (sm _ _ hfb)) ?_ ?_
  · rintro i v σ H' hv ⟨sm, x2, x3, x4, rfl⟩
    obtain ⟨r, hri, p, u, rfl, hp, hu⟩ := hru.get hv
    obtain ⟨kd, _, _, tg⟩ := fv.fm.ok r (List.mem_of_getElem? hri)
    have hd := tg.dep
    have hpt := tg.pts
    refine ⟨p, _, rfl, SqT.of (sm _ _ hp), rfl, _, _, rfl, _, _, rfl, _, _, rfl, rfl, ?_⟩
    refine ⟨_, rfl, r.tm, u, rfl, TmIs.same (sameT sm) _ hu, hd, fun H2 s2 => ⟨_, _, rfl, rfl, _, rfl, iteN (decide_eq_false (by omega)) ⟨_, rfl, r.tm, u, rfl, TmIs.same (sameT (sm.trans s2)) _ hu, hd, fun H3 s3 => ⟨_, _, rfl, rfl, _, rfl, iteN (decide_eq_false (by omega)) ?_⟩⟩⟩⟩
    exact ⟨sm.trans (s2.trans s3), _, _, _, rfl⟩
  · rintro σ H' ⟨sm, x2, x3, x4, rfl⟩
    exact q H' sm
theorem ok_csz (X : Tx K w mg T) : FnOk P w K mg base CX0 10 T.qchecksizes T.d_qchecksizes ["grammar"] spChk := by
  have G_qcheckformsize := ok_cfs (P := P) (w := w) (base := base) X
  refine X.F_qchecksizes.okQ sc_qchecksizes (fun vs H Q E h => ?_) (fun cdv A outer s H vs Q E hr h => ?_)
  · obtain ⟨_, _, rfl, _⟩ := h
    rfl
  obtain ⟨g, v, rfl, hg, gg, q⟩ := h
  obtain ⟨gp, ga, gb, gus, gws, rfl, hgp, hga, hsg, hgb, hfm⟩ := hg
  have ls := hsg.len
  have lf := hfm.len
  have l1 := gg.sg.l1
  have l6 := gg.sg.l6
  have l10 := gg.l10
  refine ⟨_, (qss_cons (qs_set (i := 1) sc_qchecksizes.nd rfl (Or.inl rfl) (qe_ix ix_tup (qv 0) qe_int (fun _ _ => rfl))) (qss_cons (qs_set (i := 2) sc_qchecksizes.nd rfl (Or.inl rfl) (qe_ix ix_tup (qv 0) qe_int (fun _ _ => rfl))) (qss_cons (qs_if (qw_pt (qw_or (qt_not (qt_chain op_le op_le qe_int (qe_callB call_len_seq rfl X.z_len PySem.boot_len (qaN (qv 1) qa_nil)) (qe_glob rfl X.c_MOST_SIGNS (v := V.int 6) ⟨_, rfl⟩))) (qw_or1 (qt_cmpR op_gt (qe_callB call_len_seq rfl X.z_len PySem.boot_len (qaN (qv 2) qa_nil)) (qe_glob rfl X.c_MOST_FORMS (v := V.int 10) ⟨_, rfl⟩) (nomark _))))) qss_never qss_nil) (qss_cons (qs_for PassesOwn.never rfl (qi_tup (qv 1)) (qg_tup rfl (qgs_cons (qg_name (i := 3) sc_qchecksizes.nd rfl (Or.inl rfl)) (qgs_cons (qg_name (i := 4) sc_qchecksizes.nd rfl (Or.inl rfl)) (qgs_cons (qg_name (i := 5) sc_qchecksizes.nd rfl (Or.inl rfl)) qgs_nil)))) (qss_one (qs_if (qw_pt (qw_or (qt_cmpR op_gt (qe_callB call_len_seq rfl X.z_len PySem.boot_len (qaN (qv 4) qa_nil)) (qe_glob rfl X.c_MOST_DOWNS (v := V.int 2) ⟨_, rfl⟩) (nomark _)) (qw_or1 (qt_cmpR op_gt (qe_callB call_len_seq rfl X.z_len PySem.boot_len (qaN (qv 5) qa_nil)) (qe_glob rfl X.c_MOST_UPS (v := V.int 2) ⟨_, rfl⟩) (nomark _))))) qss_never qss_nil))) (qss_one (qs_for PassesOwn.never rfl (qi_tup (qv 2)) (qg_name (i := 6) sc_qchecksizes.nd rfl (Or.inl rfl)) (qss_one (qs_expr (qe_call G_qcheckformsize hr rfl X.m_qcheckformsize X.F_qcheckformsize.kp X.b_qcheckformsize .nil pass0 (qaN (qv 6) qa_nil)))))))))), ?_⟩
  refine ⟨_, rfl, gp, _, 0, .ref ga, rfl, rfl, SqT.of hgp, rfl, ?_⟩
  refine ⟨_, rfl, gp, _, 1, .ref gb, rfl, rfl, SqT.of hgp, rfl, ?_⟩
  refine ⟨_, rfl, ga, _, rfl, .inr (SqT.of hga), _, _, rfl, rfl, _, rfl, iteY (decide_eq_true (by omega)) ⟨_, _, rfl, rfl, _, rfl, iteN (by rw [decide_eq_true (show ((gus.length : Nat) : Int) <= 6 by omega)]; rfl) ⟨_, rfl, gb, _, rfl, .inr (SqT.of hgb), _, _, rfl, rfl, _, rfl, iteN (decide_eq_false (by omega)) ?_⟩⟩⟩
  refine ⟨_, rfl, ga, rfl, ⟨_, SqT.of hga⟩, ?_⟩
  refine for_tup (K := K) (a := ga) (xs := gus) (fun i σ H' => Same H H' /\ ∃ x3 x4 x5 x6 : Option V, σ = [some (.ref gp), some (.ref ga), some (.ref gb), x3, x4, x5, x6]) ⟨Same.refl _, none, none, none, none, rfl⟩ (fun i σ H' _ ⟨sm, _⟩ => SqT.of (sm _ _ hga)) ?_ ?_
  · rintro i v σ H' hv ⟨sm, x3, x4, x5, x6, rfl⟩
    obtain ⟨s, hs, p, da, ua, dus, uus, rfl, hp, hda, hdn, hua, hup⟩ := hsg.get hv
    have sg := gg.sg.g s (List.mem_of_getElem? hs)
    have ld := sg.ld
    have lu := sg.lu
    have e1 := hdn.len
    have e2 := hup.len
    refine ⟨p, _, rfl, SqT.of (sm _ _ hp), rfl, _, _, rfl, _, _, rfl, _, _, rfl, rfl, ?_⟩
    refine ⟨_, rfl, da, _, rfl, .inr (SqT.of (sm _ _ hda)), _, _, rfl, rfl, _, rfl, iteN (decide_eq_false (by omega)) ⟨_, rfl, ua, _, rfl, .inr (SqT.of (sm _ _ hua)), _, _, rfl, rfl, _, rfl, iteN (decide_eq_false (by omega)) ?_⟩⟩
    exact ⟨sm, _, _, _, _, rfl⟩
  rintro σ H1 ⟨sm1, x3, x4, x5, x6, rfl⟩
  refine ⟨_, rfl, gb, rfl, ⟨_, SqT.of (sm1 _ _ hgb)⟩, ?_⟩
  refine for_tup (K := K) (a := gb) (xs := gws) (fun i σ H' => Same H H' /\ ∃ x3 x4 x5 x6 : Option V, σ = [some (.ref gp), some (.ref ga), some (.ref gb), x3, x4, x5, x6]) ⟨sm1, _, _, _, _, rfl⟩ (fun i σ H' _ ⟨sm, _⟩ => SqT.of (sm _ _ hgb)) ?_ ?_
  · rintro i v σ H' hv ⟨sm, x3, x4, x5, x6, rfl⟩
    obtain ⟨f, hf, hfi⟩ := hfm.get hv
    obtain ⟨ss, fv⟩ := gg.fm f (List.mem_of_getElem? hf)
    refine ⟨_, rfl, g, f, ss, v, rfl, FmIs.same (sameT sm) hfi, gg, fv, fun H2 s2 => ?_⟩
    exact ⟨sm.trans s2, _, _, _, _, rfl⟩
  · rintro σ H' ⟨sm, x3, x4, x5, x6, rfl⟩
    exact q H' sm
theorem ok_cap (X : Tx K w mg T) : FnOk P w K mg base CX0 1 T.qcheckapart T.d_qcheckapart ["rows"] spCap := by
  refine X.F_qcheckapart.okQ sc_qcheckapart (fun vs H Q E h => ?_) (fun cdv A outer s H vs Q E hr h => ?_)
  · obtain ⟨_, _, _, rfl, _⟩ := h
    rfl
  obtain ⟨a, nms, us, rfl, ha, hn, nd, l900, q⟩ := h
  have ln := hn.len
  refine ⟨_, (qss_cons (qs_setC (ys := []) (js := []) rfl rfl (qi_tup (qv 0)) (fun _ _ _ _ _ => qif_nil) (fun _ _ _ _ _ => (qe_ix (ix_tupC (K := K) rfl) (qv 0) qe_int (fun _ _ => rfl))) (qg_name (i := 1) sc_qcheckapart.nd rfl (Or.inl rfl)) rfl) (qss_one (qs_if (qt_cmpR op_ne (qe_lenSet rfl rfl X.z_len rfl X.z_set (qv 1)) (qe_callB call_len_seq rfl X.z_len PySem.boot_len (qaN (qv 1) qa_nil)) (nomark _)) qss_never qss_nil))), ?_⟩
  refine ⟨_, rfl, a, rfl, ⟨_, SqT.of ha⟩, fun D hD => ?_⟩
  refine comp_tupM (K := K) (xs := us) (ys := nms.map V.str) (fitsL (by omega)) (by rw [List.length_map]; omega) (SqT.of ha) hD (fun j x y G hx hy sg Q' q' => ?_) (fun H1 s1 hD1 => ?_)
  · obtain ⟨n, hn', p, r, rfl, hp⟩ := hn.get hx
    have : y = .str n := by rw [List.getElem?_map, hn'] at hy; exact (Option.some.inj hy).symm
    subst this
    exact ⟨_, rfl, p, _, 0, _, rfl, rfl, SqT.of (sg _ _ hp), atI_head _ _, q' _ (Same.refl _)⟩
  refine ⟨_, rfl, D, nms, rfl, SqL.of hD1, nd, by omega, _, rfl, D, _, rfl, .inl (SqL.of hD1), rfl, _, rfl, iteNe (fun hne => absurd (by rw [List.length_map]) hne) (fun _ => ?_)⟩
  exact q H1 s1
theorem ok_cfn (X : Tx K w mg T) : FnOk P w K mg base CX0 9 T.qcheckformnames T.d_qcheckformnames ["form", "kinds"] spCfn := by
  have G_qnamed := ok_named (P := P) (w := w) (base := base) X 6
  refine X.F_qcheckformnames.okQ sc_qcheckformnames (fun vs H Q E h => ?_) (fun cdv A outer s H vs Q E hr h => ?_)
  · obtain ⟨_, _, _, _, _, _, _, rfl, _⟩ := h
    rfl
  obtain ⟨_, g, f, ss, v, d, kvs, rfl, hf, gg, fv, hd, tl, q⟩ := h
  obtain ⟨fp, fa, fb, fus, rfl, hfp, hfa, hfb, hru⟩ := hf
  refine ⟨_, (qss_cons (qs_set (i := 2) sc_qcheckformnames.nd rfl (Or.inl rfl) (qe_ix ix_tup (qv 0) qe_int (fun _ _ => rfl))) (qss_one (qs_for PassesOwn.never rfl (qi_tup (qe_ix ix_tup (qv 0) qe_int (fun _ _ => rfl))) (qg_tup rfl (qgs_cons (qg_name (i := 3) sc_qcheckformnames.nd rfl (Or.inl rfl)) (qgs_cons (qg_name (i := 4) sc_qcheckformnames.nd rfl (Or.inl rfl)) (qgs_cons (qg_name (i := 5) sc_qcheckformnames.nd rfl (Or.inl rfl)) qgs_nil)))) (qss_one (qs_for PassesOwn.never rfl (qi_list (qe_op op_cat (qe_lst (qaT (qe_tup (qaN (qv 3) (qaN (qv 4) qa_nil))) qa_nil)) (qe_call G_qnamed hr rfl X.m_qnamed X.F_qnamed.kp X.b_qnamed .nil pass0 (qaN (qv 5) qa_nil)))) (qg_name (i := 6) sc_qcheckformnames.nd rfl (Or.inl rfl)) (qss_one (qs_if (qt_cmpR (op_notInDict (hu_of hr)) (qv 6) (qv 1) rfl) qss_never qss_nil))))))), ?_⟩
  refine ⟨_, rfl, fp, _, 0, .str f.nm, rfl, rfl, SqT.of hfp, rfl, ?_⟩
  refine ⟨_, rfl, fp, _, 3, .ref fb, rfl, rfl, SqT.of hfp, rfl, fb, rfl, ⟨_, SqT.of hfb⟩, ?_⟩
  refine for_tup (K := K) (a := fb) (xs := fus) (fun i σ H' => Same H H' /\ ∃ x3 x4 x5 x6 : Option V, σ = [some (.ref fp), some (.ref d), some (.str f.nm), x3, x4, x5, x6]) ⟨Same.refl _, none, none, none, none, rfl⟩ (fun i σ H' _ ⟨sm, _⟩ => SqT.of (sm _ _ hfb)) ?_ ?_
  · rintro i v σ H' hv ⟨sm, x3, x4, x5, x6, rfl⟩
    obtain ⟨r, hri, p, u, rfl, hp, hu⟩ := hru.get hv
    obtain ⟨kd, _, hev, tg⟩ := fv.fm.ok r (List.mem_of_getElem? hri)
    have hdp := tg.dep
    have hpt := tg.pts
    refine ⟨p, _, rfl, SqT.of (sm _ _ hp), rfl, _, _, rfl, _, _, rfl, _, _, rfl, rfl, ?_⟩
    refine ⟨_, rfl, _, rfl, (by show 2 <= sizeLine; decide), fun p1 hp1 => ⟨(by show 1 <= sizeLine; decide), fun l1 hl1 => ?_⟩⟩
    have s1 := same_new hp1 (.tup [.int r.k, .str r.nm])
    have s2 := same_new hl1 (.lst [.ref p1])
    have hp1' := s2 _ _ (upd_same (H := H') (a := p1) (o := .tup [.int r.k, .str r.nm]))
    have hl1' := upd_same (H := upd H' p1 (.tup [.int r.k, .str r.nm])) (a := l1) (o := .lst [.ref p1])
    have sA := s1.trans s2
    generalize upd (upd H' p1 (.tup [.int r.k, .str r.nm])) l1 (.lst [.ref p1]) = G1 at sA hp1' hl1' ⊢
    refine ⟨_, rfl, r.tm, u, rfl, TmIs.same (sameT (sm.trans sA)) _ hu, hdp, by omega, fun l2 ys G2 nl2 s3 hl2 hps => ?_⟩
    have lps := hps.len
    have lnm := named_len r.tm
    refine ⟨l1, l2, _, _, rfl, rfl, s3 _ _ hl1', hl2, fits2 (by simp; omega), fun l3 hl3 => ?_⟩
    have s4 := same_new hl3 (.lst ([.ref p1] ++ ys))
    have hl3' := upd_same (H := G2) (a := l3) (o := .lst ([.ref p1] ++ ys))
    have hall : IsPs (upd G2 l3 (.lst ([.ref p1] ++ ys))) ((r.k, r.nm) :: named r.tm) (.ref p1 :: ys) := ⟨_, _, rfl, ⟨p1, rfl, (s3.trans s4) _ _ hp1'⟩, hps.same (sameT s4)⟩
    have sB := sA.trans (s3.trans s4)
    generalize upd G2 l3 (.lst ([.ref p1] ++ ys)) = G3 at sB hl3' hall ⊢
    refine ⟨l3, rfl, ⟨_, SqL.of hl3'⟩, ?_⟩
    refine for_list (K := K) (a := l3) (xs := .ref p1 :: ys) (fun j σ H2 => Same G3 H2 /\ ∃ x6 : Option V, σ = [some (.ref fp), some (.ref d), some (.str f.nm), some (.int r.k), some (.str r.nm), some u, x6]) ⟨Same.refl _, _, rfl⟩ (fun j σ H2 _ ⟨sm2, _⟩ => SqL.of (sm2 _ _ hl3')) ?_ ?_
    · rintro j x σ H2 hx ⟨sm2, y6, rfl⟩
      obtain ⟨pr, hpr, a, rfl, ha⟩ := hall.get hx
      have hmem : ∃ kd, EV ss pr.1 pr.2 kd := by
        rcases List.mem_cons.mp (List.mem_of_getElem? hpr) with e | e
        · rw [e]; exact ⟨kd, hev⟩
        · exact kd_names r.tm tg.kind pr e
      obtain ⟨kd', hkd'⟩ := hmem
      have gt : DGet H2 d (.ref a) (some (.str kd')) := by
        have := DGet.t (k := [Sum.inl pr.1, Sum.inr pr.2]) ((sm.trans (sB.trans sm2)) _ _ hd) (sm2 _ _ ha)
        rw [tl _ _ _ hkd'] at this
        exact this
      refine ⟨_, rfl, _, rfl, d, _, rfl, gt, _, rfl, iteN rfl ?_⟩
      exact ⟨sm2, _, rfl⟩
    · rintro σ H2 ⟨sm2, y6, rfl⟩
      exact ⟨sm.trans (sB.trans sm2), _, _, _, _, rfl⟩
  · rintro σ H' ⟨sm, x3, x4, x5, x6, rfl⟩
    exact q H' sm
theorem ok_cnm (X : Tx K w mg T) : FnOk P w K mg base CX0 10 T.qchecknames T.d_qchecknames ["grammar"] spChk := by
  have G_qcheckapart := (ok_cap (P := P) (w := w) (base := base) X).mono (show 1 <= 9 by decide)
  have G_qcheckformnames := ok_cfn (P := P) (w := w) (base := base) X
  have G_qvaluekinds := (ok_kinds (P := P) (w := w) (base := base) X).mono (show 4 <= 9 by decide)
  refine X.F_qchecknames.okQ sc_qchecknames (fun vs H Q E h => ?_) (fun cdv A outer s H vs Q E hr h => ?_)
  · obtain ⟨_, _, rfl, _⟩ := h
    rfl
  obtain ⟨g, v, rfl, hg, gg, q⟩ := h
  have hg0 := hg
  obtain ⟨gp, ga, gb, gus, gws, rfl, hgp, hga, hsg, hgb, hfm⟩ := hg
  have ls := hsg.len
  have lf := hfm.len
  have l6 := gg.sg.l6
  have l10 := gg.l10
  refine ⟨_, (qss_cons (qs_expr (qe_call G_qcheckapart hr rfl X.m_qcheckapart X.F_qcheckapart.kp X.b_qcheckapart .nil pass0 (qaS (qe_ix ix_tup (qv 0) qe_int (fun _ _ => rfl)) qa_nil))) (qss_cons (qs_expr (qe_call G_qcheckapart hr rfl X.m_qcheckapart X.F_qcheckapart.kp X.b_qcheckapart .nil pass0 (qaS (qe_ix ix_tup (qv 0) qe_int (fun _ _ => rfl)) qa_nil))) (qss_cons (qs_for PassesOwn.never rfl (qi_tup (qe_ix ix_tup (qv 0) qe_int (fun _ _ => rfl))) (qg_name (i := 1) sc_qchecknames.nd rfl (Or.inl rfl)) (qss_one (qs_expr (qe_call G_qcheckapart hr rfl X.m_qcheckapart X.F_qcheckapart.kp X.b_qcheckapart .nil pass0 (qaB (qe_op op_catA (qe_ix ix_tup (qv 1) qe_int (fun _ _ => rfl)) (qe_ix ix_tup (qv 1) qe_int (fun _ _ => rfl))) qa_nil))))) (qss_one (qs_for PassesOwn.never rfl (qi_tup (qe_ix ix_tup (qv 0) qe_int (fun _ _ => rfl))) (qg_name (i := 2) sc_qchecknames.nd rfl (Or.inl rfl)) (qss_one (qs_expr (qe_call G_qcheckformnames hr rfl X.m_qcheckformnames X.F_qcheckformnames.kp X.b_qcheckformnames .nil pass0 (qaN (qv 2) (qaK (qe_call G_qvaluekinds hr rfl X.m_qvaluekinds X.F_qvaluekinds.kp X.b_qvaluekinds .nil pass0 (qaN (qv 0) (qaN (qv 2) qa_nil))) qa_nil)))))))))), ?_⟩
  refine ⟨_, rfl, gp, _, 0, .ref ga, rfl, rfl, SqT.of hgp, rfl, ga, g.sg.map Sg.nm, gus, rfl, hga, L2R.mapL Sg.nm (fun s v h => sg_nm h) hsg, gg.sg.nd, by omega, fun H1 s1 => ?_⟩
  refine ⟨_, rfl, gp, _, 1, .ref gb, rfl, rfl, SqT.of (s1 _ _ hgp), rfl, gb, g.fm.map Fm.nm, gws, rfl, s1 _ _ hgb, L2R.mapL Fm.nm (fun s v h => fm_nm (FmIs.same (sameT s1) h)) hfm, gg.nd, by omega, fun H2 s2 => ?_⟩
  have s12 := s1.trans s2
  refine ⟨_, rfl, gp, _, 0, .ref ga, rfl, rfl, SqT.of (s12 _ _ hgp), rfl, ga, rfl, ⟨_, SqT.of (s12 _ _ hga)⟩, ?_⟩
  refine for_tup (K := K) (a := ga) (xs := gus) (fun i σ H' => Same H H' /\ ∃ x1 x2 : Option V, σ = [some (.ref gp), x1, x2]) ⟨s12, none, none, rfl⟩ (fun i σ H' _ ⟨sm, _⟩ => SqT.of (sm _ _ hga)) ?_ ?_
  · rintro i v σ H' hv ⟨sm, x1, x2, rfl⟩
    obtain ⟨s, hs, p, da, ua, dus, uus, rfl, hp, hda, hdn, hua, hup⟩ := hsg.get hv
    have sg := gg.sg.g s (List.mem_of_getElem? hs)
    have ld := sg.ld
    have lu := sg.lu
    have e1 := hdn.len
    have e2 := hup.len
    refine ⟨_, rfl, p, _, 1, .ref da, rfl, rfl, SqT.of (sm _ _ hp), rfl, _, rfl, p, _, 2, .ref ua, rfl, rfl, SqT.of (sm _ _ hp), rfl, da, ua, dus, uus, rfl, rfl, sm _ _ hda, sm _ _ hua, fits2 (by omega), fun t H3 s3 ht => ?_⟩
    have hprs : L2R (PrIs H3) (s.dn ++ s.up) (dus ++ uus) := (hdn.imp fun _ _ h => PrIs.same (sameT (sm.trans s3)) h).app (hup.imp fun _ _ h => PrIs.same (sameT (sm.trans s3)) h)
    refine ⟨t, (s.dn ++ s.up).map Prod.fst, _, rfl, ht, L2R.mapL Prod.fst (fun pr v ⟨a, e, h⟩ => ⟨a, _, e, h⟩) hprs, sg.nd, by rw [List.length_append]; omega, fun H4 s4 => ?_⟩
    exact ⟨sm.trans (s3.trans s4), _, _, rfl⟩
  rintro σ H3 ⟨sm3, x1, x2, rfl⟩
  refine ⟨_, rfl, gp, _, 1, .ref gb, rfl, rfl, SqT.of (sm3 _ _ hgp), rfl, gb, rfl, ⟨_, SqT.of (sm3 _ _ hgb)⟩, ?_⟩
  refine for_tup (K := K) (a := gb) (xs := gws) (fun i σ H' => Same H H' /\ ∃ x1 x2 : Option V, σ = [some (.ref gp), x1, x2]) ⟨sm3, _, _, rfl⟩ (fun i σ H' _ ⟨sm, _⟩ => SqT.of (sm _ _ hgb)) ?_ ?_
  · rintro i v σ H' hv ⟨sm, x1, x2, rfl⟩
    obtain ⟨f, hf, hfi⟩ := hfm.get hv
    obtain ⟨ss, fv⟩ := gg.fm f (List.mem_of_getElem? hf)
    have lb := fm_br fv
    have l4 := fv.l4
    refine ⟨_, rfl, _, rfl, _, rfl, g, f, ss, _, v, rfl, GrIs.same (sameT sm) hg0, FmIs.same (sameT sm) hfi, grv_n gg, ⟨fv.fm.nm, fv.mem⟩, by omega, fun d H4 s4 nd hd => ?_⟩
    refine ⟨EV ss, g, f, ss, v, d, _, rfl, FmIs.same (sameT (sm.trans s4)) hfi, gg, fv, hd, tells_EV gg fv.mem, fun H5 s5 => ?_⟩
    exact ⟨sm.trans (s4.trans s5), _, _, rfl⟩
  · rintro σ H' ⟨sm, x1, x2, rfl⟩
    exact q H' sm
theorem ok_cru (X : Tx K w mg T) : FnOk P w K mg base CX0 10 T.qcheckrules T.d_qcheckrules ["grammar"] spChk := by
  have G_qduevalues := (ok_dues (P := P) (w := w) (base := base) X).mono (show 4 <= 9 by decide)
  refine X.F_qcheckrules.okQ sc_qcheckrules (fun vs H Q E h => ?_) (fun cdv A outer s H vs Q E hr h => ?_)
  · obtain ⟨_, _, rfl, _⟩ := h
    rfl
  obtain ⟨g, v, rfl, hg, gg, q⟩ := h
  have hg0 := hg
  obtain ⟨gp, ga, gb, gus, gws, rfl, hgp, hga, hsg, hgb, hfm⟩ := hg
  have lf := hfm.len
  refine ⟨_, (qss_one (qs_for PassesOwn.never rfl (qi_tup (qe_ix ix_tup (qv 0) qe_int (fun _ _ => rfl))) (qg_name (i := 1) sc_qcheckrules.nd rfl (Or.inl rfl)) (qss_cons (qs_set (i := 2) sc_qcheckrules.nd rfl (Or.inl rfl) (qe_ix ix_tup (qv 1) qe_int (fun _ _ => rfl))) (qss_cons (qs_setCT (ts := ["k", "name", "term"]) (ys := []) (js := []) rfl rfl (qi_tup (qe_ix ix_tup (qv 1) qe_int (fun _ _ => rfl))) (fun _ _ _ _ _ => qg_tupC (K := K) (n := 3) rfl rfl (qgs_cons (qg_name (i := 0) (show (["k", "name", "term"] : List Str).Nodup by decide) rfl (Or.inl rfl)) (qgs_cons (qg_name (i := 1) (show (["k", "name", "term"] : List Str).Nodup by decide) rfl (Or.inl rfl)) (qgs_cons (qg_name (i := 2) (show (["k", "name", "term"] : List Str).Nodup by decide) rfl (Or.inl rfl)) qgs_nil)))) (fun _ _ _ _ _ => qif_nil) (fun _ _ _ _ _ => (qe_tup (qaN (qv 0) (qaN (qv 1) qa_nil)))) (qg_name (i := 3) sc_qcheckrules.nd rfl (Or.inl rfl)) rfl) (qss_one (qs_if (qt_cmpR (op_neD hr.units) (qe_callB call_sortP rfl X.z_sorted PyProof.Rows.boot_sorted (qaN (qv 3) qa_nil)) (qe_callB call_sortP rfl X.z_sorted PyProof.Rows.boot_sorted (qaK (qe_call G_qduevalues hr rfl X.m_qduevalues X.F_qduevalues.kp X.b_qduevalues .nil pass0 (qaN (qv 0) (qaN (qv 1) qa_nil))) qa_nil)) (nomark _)) qss_never qss_nil)))))), ?_⟩
  refine ⟨_, rfl, gp, _, 1, .ref gb, rfl, rfl, SqT.of hgp, rfl, gb, rfl, ⟨_, SqT.of hgb⟩, ?_⟩
  refine for_tup (K := K) (a := gb) (xs := gws) (fun i σ H' => Same H H' /\ ∃ x1 x2 x3 : Option V, σ = [some (.ref gp), x1, x2, x3]) ⟨Same.refl _, none, none, none, rfl⟩ (fun i σ H' _ ⟨sm, _⟩ => SqT.of (sm _ _ hgb)) ?_ ?_
  · rintro i v σ H' hv ⟨sm, x1, x2, x3, rfl⟩
    obtain ⟨f, hf, hfi⟩ := hfm.get hv
    obtain ⟨ss, fv⟩ := gg.fm f (List.mem_of_getElem? hf)
    have lb := fm_br fv
    have l4 := fv.l4
    have lr8 := fm_ru gg fv
    have hfi0 := hfi
    obtain ⟨fp, fa, fb, fus, rfl, hfp, hfa, hfb, hru⟩ := hfi
    have lru := hru.len
    refine ⟨_, rfl, fp, _, 0, .str f.nm, rfl, rfl, SqT.of (sm _ _ hfp), rfl, ?_⟩
    refine ⟨_, rfl, fp, _, 3, .ref fb, rfl, rfl, SqT.of (sm _ _ hfp), rfl, fb, rfl, ⟨_, SqT.of (sm _ _ hfb)⟩, fun D hD => ?_⟩
    refine compT_tupR (K := K) (xs := fus) (as := f.ru.map keyR) (R := IsP) (OffD.ofT fun _ _ _ _ e r => r.same e) (fitsL (by omega)) (by rw [List.length_map]; omega) (SqT.of (sm _ _ hfb)) hD (fun j x b H3 hx hb sm3 Q' q' => ?_) (fun ys H3 s3 h3 hys => ?_)
    · obtain ⟨r, hr', p, u, rfl, hp, hu⟩ := hru.get hx
      rw [List.getElem?_map, hr'] at hb
      cases hb
      refine ⟨p, _, rfl, SqT.of ((sm.trans sm3) _ _ hp), rfl, _, _, rfl, _, _, rfl, _, _, rfl, rfl, [some _, some _, some _], rfl, rfl, ?_⟩
      exact ⟨_, rfl, _, rfl, (by show 2 <= sizeLine; decide), fun p5 hp5 => q' _ _ (same_new hp5 _) ⟨p5, rfl, upd_same⟩⟩
    have lys := hys.len
    rw [List.length_map] at lys
    have sA := sm.trans s3
    refine ⟨_, rfl, D, f.ru.map keyR, ys, rfl, SqL.of h3, hys, by omega, fun D1 es1 us1 hD1 p1 o1 L1 ll1 => ?_⟩
    have s4 := same_new hD1 (.lst us1)
    have L1' : L2R (IsP (upd H3 D1 (.lst us1))) es1 us1 := L1.imp fun _ _ h => h.same (sameT s4)
    have hD1' := upd_same (H := H3) (a := D1) (o := .lst us1)
    have sB := sA.trans s4
    generalize upd H3 D1 (.lst us1) = H4 at s4 L1' hD1' sB ⊢
    refine ⟨_, rfl, _, rfl, g, f, ss, _, _, rfl, GrIs.same (sameT sB) hg0, FmIs.same (sameT sB) hfi0, grv_n gg, ⟨fv.fm.nm, fv.mem⟩, by omega, fun D2 us2 H5 s5 nD2 hD2 hus2 => ?_⟩
    have l2 := hus2.len
    have l22 := duesF_len ss 0 fun s hs => gg.sg.g s (fv.mem s hs)
    refine ⟨D2, duesF 0 ss, us2, rfl, SqL.of hD2, hus2, by omega, fun D3 es3 us3 hD3 p3 o3 L3 ll3 => ?_⟩
    have s6 := same_new hD3 (.lst us3)
    have L3' : L2R (IsP (upd H5 D3 (.lst us3))) es3 us3 := L3.imp fun _ _ h => h.same (sameT s6)
    have hD3' := upd_same (H := H5) (a := D3) (o := .lst us3)
    have L1'' : L2R (IsP (upd H5 D3 (.lst us3))) es1 us1 := L1'.imp fun _ _ h => h.same (sameT (s5.trans s6))
    have ee : es1 = es3 := sorted_one so_P (p1.trans (fv.fm.ru.trans (by rw [due_eq]; exact p3.symm))) o1 o3
    subst ee
    refine ⟨D1, D3, us1, us3, es1.map daP, es1.map daP, rfl, rfl, .inr ⟨SqL.of ((s5.trans s6) _ _ hD1'), SqL.of hD3'⟩, isds_PL L1'', isds_PL L3', Nat.le_trans (dep_P _) (by decide), ?_⟩
    rw [eqDs_PL]
    refine ⟨_, rfl, iteN rfl ?_⟩
    exact ⟨sB.trans (s5.trans s6), _, _, _, rfl⟩
  · rintro σ H' ⟨sm, x1, x2, x3, rfl⟩
    exact q H' sm
theorem ok_ckd (X : Tx K w mg T) : FnOk P w K mg base CX0 12 T.qcheckkinds T.d_qcheckkinds ["grammar"] spChk := by
  have G_qvaluekinds := (ok_kinds (P := P) (w := w) (base := base) X).mono (show 4 <= 11 by decide)
  have G_qkindof := ok_kindof (P := P) (w := w) (base := base) X 6
  refine X.F_qcheckkinds.okQ sc_qcheckkinds (fun vs H Q E h => ?_) (fun cdv A outer s H vs Q E hr h => ?_)
  · obtain ⟨_, _, rfl, _⟩ := h
    rfl
  obtain ⟨g, v, rfl, hg, gg, q⟩ := h
  have hg0 := hg
  obtain ⟨gp, ga, gb, gus, gws, rfl, hgp, hga, hsg, hgb, hfm⟩ := hg
  refine ⟨_, (qss_one (qs_for PassesOwn.never rfl (qi_tup (qe_ix ix_tup (qv 0) qe_int (fun _ _ => rfl))) (qg_name (i := 1) sc_qcheckkinds.nd rfl (Or.inl rfl)) (qss_cons (qs_set (i := 2) sc_qcheckkinds.nd rfl (Or.inl rfl) (qe_call G_qvaluekinds hr rfl X.m_qvaluekinds X.F_qvaluekinds.kp X.b_qvaluekinds .nil pass0 (qaN (qv 0) (qaN (qv 1) qa_nil)))) (qss_one (qs_for PassesOwn.never rfl (qi_tup (qe_ix ix_tup (qv 1) qe_int (fun _ _ => rfl))) (qg_tup rfl (qgs_cons (qg_name (i := 3) sc_qcheckkinds.nd rfl (Or.inl rfl)) (qgs_cons (qg_name (i := 4) sc_qcheckkinds.nd rfl (Or.inl rfl)) (qgs_cons (qg_name (i := 5) sc_qcheckkinds.nd rfl (Or.inl rfl)) qgs_nil)))) (qss_one (qs_if (qt_cmpR op_ne (qe_call G_qkindof hr rfl X.m_qkindof X.F_qkindof.kp X.b_qkindof .nil pass0 (qaN (qv 5) (qaN (qv 2) qa_nil))) (qe_dget (hu_of hr) (qv 2) (qe_tup (qaN (qv 3) (qaN (qv 4) qa_nil)))) (nomark _)) qss_never qss_nil))))))), ?_⟩
  refine ⟨_, rfl, gp, _, 1, .ref gb, rfl, rfl, SqT.of hgp, rfl, gb, rfl, ⟨_, SqT.of hgb⟩, ?_⟩
  refine for_tup (K := K) (a := gb) (xs := gws) (fun i σ H' => Same H H' /\ ∃ x1 x2 x3 x4 x5 : Option V, σ = [some (.ref gp), x1, x2, x3, x4, x5]) ⟨Same.refl _, none, none, none, none, none, rfl⟩ (fun i σ H' _ ⟨sm, _⟩ => SqT.of (sm _ _ hgb)) ?_ ?_
  · rintro i v σ H' hv ⟨sm, x1, x2, x3, x4, x5, rfl⟩
    obtain ⟨f, hf, hfi⟩ := hfm.get hv
    obtain ⟨ss, fv⟩ := gg.fm f (List.mem_of_getElem? hf)
    have lb := fm_br fv
    have l4 := fv.l4
    refine ⟨_, rfl, _, rfl, g, f, ss, _, v, rfl, GrIs.same (sameT sm) hg0, FmIs.same (sameT sm) hfi, grv_n gg, ⟨fv.fm.nm, fv.mem⟩, by omega, fun d H4 s4 nd hd => ?_⟩
    have tl := tells_EV gg fv.mem
    obtain ⟨fp, fa, fb, fus, rfl, hfp, hfa, hfb, hru⟩ := hfi
    have sA := sm.trans s4
    refine ⟨_, rfl, fp, _, 3, .ref fb, rfl, rfl, SqT.of (sA _ _ hfp), rfl, fb, rfl, ⟨_, SqT.of (sA _ _ hfb)⟩, ?_⟩
    refine for_tup (K := K) (a := fb) (xs := fus) (fun j σ H2 => Same H4 H2 /\ ∃ x3 x4 x5 : Option V, σ = [some (.ref gp), some (.ref fp), some (.ref d), x3, x4, x5]) ⟨Same.refl _, _, _, _, rfl⟩ (fun j σ H2 _ ⟨sm2, _⟩ => SqT.of (sm2 _ _ (sA _ _ hfb))) ?_ ?_
    · rintro j x σ H2 hx ⟨sm2, y3, y4, y5, rfl⟩
      obtain ⟨r, hri, p, u, rfl, hp, hu⟩ := hru.get hx
      obtain ⟨kd, _, hev, tg⟩ := fv.fm.ok r (List.mem_of_getElem? hri)
      have sB := sA.trans sm2
      refine ⟨p, _, rfl, SqT.of (sB _ _ hp), rfl, _, _, rfl, _, _, rfl, _, _, rfl, rfl, ?_⟩
      refine ⟨_, rfl, _, rfl, EV ss, r.tm, u, d, _, kd, rfl, TmIs.same (sameT sB) _ hu, tg.dep, sm2 _ _ hd, tl, tg.kind, fun H5 s5 => ⟨_, rfl, _, rfl, _, rfl, (by show 2 <= sizeLine; decide), fun p6 hp6 => ?_⟩⟩
      have s6 := same_new hp6 (.tup [.int r.k, .str r.nm])
      have gt : DGet (upd H5 p6 (.tup [.int r.k, .str r.nm])) d (.ref p6) (some (.str kd)) := by
        have := DGet.t (k := [Sum.inl r.k, Sum.inr r.nm]) ((sm2.trans (s5.trans s6)) _ _ hd) (upd_same (H := H5) (a := p6) (o := .tup [.int r.k, .str r.nm]))
        rw [tl _ _ _ hev] at this
        exact this
      refine ⟨d, .str kd, rfl, gt, rfl, _, rfl, iteNe (fun hne => absurd rfl hne) (fun _ => ?_)⟩
      exact ⟨sm2.trans (s5.trans s6), _, _, _, rfl⟩
    · rintro σ H2 ⟨sm2, y3, y4, y5, rfl⟩
      exact ⟨sA.trans sm2, _, _, _, _, _, rfl⟩
  · rintro σ H' ⟨sm, x1, x2, x3, x4, x5, rfl⟩
    exact q H' sm
theorem ok_letby (X : Tx K w mg T) : FnOk P w K mg base CX0 13 T.qletby T.d_qletby ["grammar"] spLetBy := by
  have G_qchecksizes := (ok_csz (P := P) (w := w) (base := base) X).mono (show 10 <= 12 by decide)
  have G_qchecknames := (ok_cnm (P := P) (w := w) (base := base) X).mono (show 10 <= 12 by decide)
  have G_qcheckrules := (ok_cru (P := P) (w := w) (base := base) X).mono (show 10 <= 12 by decide)
  have G_qcheckkinds := ok_ckd (P := P) (w := w) (base := base) X
  refine X.F_qletby.okQ sc_qletby (fun vs H Q E h => ?_) (fun cdv A outer s H vs Q E hr h => ?_)
  · obtain ⟨_, _, rfl, _⟩ := h
    rfl
  obtain ⟨g, v, rfl, hg, gg, q⟩ := h
  refine ⟨_, (qss_cons (qs_expr (qe_call G_qchecksizes hr rfl X.m_qchecksizes X.F_qchecksizes.kp X.b_qchecksizes .nil pass0 (qaN (qv 0) qa_nil))) (qss_cons (qs_expr (qe_call G_qchecknames hr rfl X.m_qchecknames X.F_qchecknames.kp X.b_qchecknames .nil pass0 (qaN (qv 0) qa_nil))) (qss_cons (qs_expr (qe_call G_qcheckrules hr rfl X.m_qcheckrules X.F_qcheckrules.kp X.b_qcheckrules .nil pass0 (qaN (qv 0) qa_nil))) (qss_cons (qs_expr (qe_call G_qcheckkinds hr rfl X.m_qcheckkinds X.F_qcheckkinds.kp X.b_qcheckkinds .nil pass0 (qaN (qv 0) qa_nil))) (qss_one (qs_ret (qv 0))))))), ?_⟩
  refine ⟨_, rfl, g, v, rfl, hg, gg, fun H1 s1 => ?_⟩
  refine ⟨_, rfl, g, v, rfl, GrIs.same (sameT s1) hg, gg, fun H2 s2 => ?_⟩
  refine ⟨_, rfl, g, v, rfl, GrIs.same (sameT (s1.trans s2)) hg, gg, fun H3 s3 => ?_⟩
  refine ⟨_, rfl, g, v, rfl, GrIs.same (sameT (s1.trans (s2.trans s3))) hg, gg, fun H4 s4 => ?_⟩
  exact ⟨_, rfl, q H4 (s1.trans (s2.trans (s3.trans s4)))⟩
end
end K12
namespace L2
open PySem PySem.Spec PyProof.Rows TM
section
variable {X : Cx} {K : PySem.W.Frag} {e : Expr} {te : TE} {p1 p2 q1 q2 : Pos}
theorem qe_tupRevC (hK : X.K = K) (hc : X.calm = true) (g1 : Gl X "tuple") (m1 : X.mg "tuple" = none) (g2 : Gl X "reversed") (m2 : X.mg "reversed" = none) (he : QE X e te)
    (hs2 : starEach [e] X.env = [(false, eval e X.env)] := by rfl) (hs1 : starEach [.Call (.Name "reversed" p2) [e] [] q2] X.env = [(false, eval (.Call (.Name "reversed" p2) [e] [] q2) X.env)] := by rfl) :
    QE X (.Call (.Name "tuple" p1) [.Call (.Name "reversed" p2) [e] [] q2] [] q1) (tRevT K te) := hK ▸ qe_tupRev hc g1 m1 g2 m2 he hs2 hs1
end
section
variable {K : PySem.W.Frag} {a : Addr} {xs : List V} {js : List Nat} {te : TE} {σ : St} {Q : VK} {D : Addr} {H1 : Hp} {α : Type} {R : Hp -> α -> V -> Prop} {as : List α}
theorem comp_revTR (st : OffD D R) (hz : xs.length < sizeLine) (hlen : as.length = xs.length) (ha : SqT K H1 a xs) (hD : H1 D = none)
    (he : ∀ (i : Nat) (x : V) (b : α) (H : Hp), xs.reverse[i]? = some x -> as[i]? = some b -> Same H1 H -> ∀ Q' : VK, (∀ y H', Same H H' -> R H' b y -> Q' y H') -> te (some x :: compS js σ) H Q')
    (hq : ∀ ys H', Same H1 H' -> H' D = some (.lst ys) -> L2R (R H') as ys -> Q (.ref D) H') : CompW (ItRT K a xs) js tYes te σ Q D H1 := by
  refine ⟨fun i m acc H => m = xs.length - i /\ i <= xs.length /\ Same H1 H /\ H D = some (.lst acc) /\ L2R (R H) (as.take i) acc, ⟨xs.length, by simp, Nat.zero_le _, same_new hD _, upd_same, .nil⟩, ?_⟩
  rintro i m acc H ⟨hm, hi, s, d, r⟩
  refine ⟨d, by rw [r.len, List.length_take]; omega, ?_⟩
  by_cases hlt : i < xs.length
  · refine .inr ⟨⟨hlt, Same.tupS s ha⟩, fun x H' y => ?_⟩
    obtain ⟨rfl, hx⟩ := y
    unfold tYes
    dsimp only
    rw [if_pos rfl]
    obtain ⟨b, hb⟩ := some_of_lt (xs := as) (i := i) (by omega)
    refine he i x b H' hx hb s _ fun y H4 s4 r4 => ⟨s4 _ _ d, xs.length - (i + 1), by omega, rfl, hlt, same_upd hD (s.trans s4), upd_same, ?_⟩
    have k : ∀ c o, c ≠ D -> H4 c = some o -> upd H4 D (.lst (acc ++ [y])) c = some o := fun c o hc e => by rw [upd_ne hc]; exact e
    rw [take_snocA hb]
    exact (r.imp fun b v r => st _ _ _ b v (s4 _ _ d) k (st _ _ _ b v d (fun c o _ e => s4 c o e) r)).snoc (st _ _ _ b y (s4 _ _ d) k r4)
  · rw [List.take_of_length_le (by omega)] at r
    exact .inl ⟨⟨by omega, Same.tupS s ha⟩, hq acc H s d r⟩
end
end L2
namespace K12
open PySem L2
open TM 
def b2 : Nat -> Int
  | 0 => 1
  | n + 1 => 2 * b2 n
def spSum (n : Nat) : Sp := fun vs H Q _ => ∃ (E : KEnv) (l : Int), vs = [.int l] /\ 1 <= l /\ l <= b2 n /\ ∀ t x H', Same H H' -> TmIs H' t x -> TmG E "num" (n + 1) (2 * l - 1) t -> Q x H'
def spWide0 : Sp := fun vs H Q _ => ∃ (E : KEnv) (m : Int), vs = [.str "num", .int m] /\ (m = 27 \/ m = 29 \/ m = 30) /\ ∀ t x H', Same H H' -> TmIs H' t x -> (m = 30 -> TmG E "num" 6 30 t) -> (m ≠ 30 -> TmG E "num" 5 m t) -> Q x H'
def spWide : Sp := fun vs H Q _ => ∃ (E : KEnv) (kd : Str), vs = [.str kd, .int 30] /\ kd ∈ kinds3 /\ ∀ t x H', Same H H' -> TmIs H' t x -> TmG E kd 6 30 t -> Q x H'
def spDeep : Sp := fun vs H Q _ => ∃ (E : KEnv) (kd : Str), vs = [.str kd, .int 6] /\ kd ∈ kinds3 /\ ∀ t x H', Same H H' -> TmIs H' t x -> TmG E kd 6 30 t -> Q x H'
section
variable {P : Program} {w : World} {K : PySem.W.Frag} {mg : Str -> Option Value} {base : Heap} {T : Adr}
theorem ok_sum (X : Tx K w mg T) : ∀ n : Nat, FnOk P w K mg base CX0 (n + 1) T.qsum T.d_qsum ["_law_leaves"] (spSum n) := by
  intro n
  induction n with
  | zero =>
    have G_qsum : FnOk P w K mg base CX0 0 T.qsum T.d_qsum ["_law_leaves"] (fun _ _ _ _ => False) := ⟨fun _ _ _ _ h => h.elim, fun _ _ _ _ _ _ _ _ _ _ _ _ _ h => h.elim⟩
    refine X.F_qsum.okQ sc_qsum (fun vs H Q E h => ?_) (fun cdv A outer s H vs Q E hr h => ?_)
    · obtain ⟨_, _, rfl, _⟩ := h
      rfl
    obtain ⟨Ev, l, rfl, l1, l2, q⟩ := h
    refine ⟨_, (qss_cons (qs_if (qt_cmpR op_eq (qv 0) qe_int (nomark _)) (qss_one (qs_ret (qe_tup (qaC qe_str qa_nil)))) qss_nil) (qss_one (qs_ret (qe_tup (qaC qe_str (qaC qe_str (qaT (qe_tup (qaK (qe_call G_qsum hr rfl X.m_qsum X.F_qsum.kp X.b_qsum .nil pass0 (qaB (qe_op op_fdiv (qv 0) qe_int) qa_nil)) (qaK (qe_call G_qsum hr rfl X.m_qsum X.F_qsum.kp X.b_qsum .nil pass0 (qaB (qe_op op_sub (qv 0) (qe_op op_fdiv (qv 0) qe_int)) qa_nil)) qa_nil))) qa_nil))))))), ?_⟩
    have e : l = 1 := by unfold b2 at l2; omega
    subst e
    refine ⟨_, rfl, rfl, _, rfl, iteYd rfl ?_⟩
    refine ⟨(by show 1 <= sizeLine; decide), fun a1 h1 => ?_⟩
    exact q _ _ _ (same_new h1 _) (tm_mark upd_same) tg_mark
  | succ n ih =>
    have G_qsum := ih
    refine X.F_qsum.okQ sc_qsum (fun vs H Q E h => ?_) (fun cdv A outer s H vs Q E hr h => ?_)
    · obtain ⟨_, _, rfl, _⟩ := h
      rfl
    obtain ⟨Ev, l, rfl, l1, l2, q⟩ := h
    refine ⟨_, (qss_cons (qs_if (qt_cmpR op_eq (qv 0) qe_int (nomark _)) (qss_one (qs_ret (qe_tup (qaC qe_str qa_nil)))) qss_nil) (qss_one (qs_ret (qe_tup (qaC qe_str (qaC qe_str (qaT (qe_tup (qaK (qe_call G_qsum hr rfl X.m_qsum X.F_qsum.kp X.b_qsum .nil pass0 (qaB (qe_op op_fdiv (qv 0) qe_int) qa_nil)) (qaK (qe_call G_qsum hr rfl X.m_qsum X.F_qsum.kp X.b_qsum .nil pass0 (qaB (qe_op op_sub (qv 0) (qe_op op_fdiv (qv 0) qe_int)) qa_nil)) qa_nil))) qa_nil))))))), ?_⟩
    refine ⟨_, rfl, rfl, _, rfl, iteDd (fun h => ?_) (fun h => ?_)⟩
    · have e : l = 1 := V.int.inj h
      subst e
      refine ⟨(by show 1 <= sizeLine; decide), fun a1 h1 => ?_⟩
      exact q _ _ _ (same_new h1 _) (tm_mark upd_same) (tg_mark.mono (by omega) (by omega))
    · have hne : l ≠ 1 := fun z => h (by rw [z])
      have l2' : l <= 2 * b2 n := l2
      refine ⟨_, rfl, _, _, rfl, rfl, ⟨by decide, by decide⟩, Ev, l / 2, rfl, by omega, by omega, fun t1 x1 H1 s1 ht1 g1 => ?_⟩
      refine ⟨_, rfl, _, rfl, _, _, rfl, rfl, ⟨by decide, by decide⟩, _, _, rfl, rfl, Ev, l - l / 2, rfl, by omega, by omega, fun t2 x2 H2 s2 ht2 g2 => ⟨(by show 2 <= sizeLine; decide), fun a3 h3 => ⟨(by show 3 <= sizeLine; decide), fun a4 h4 => ?_⟩⟩⟩
      have s3 := same_new h3 (.tup [x1, x2])
      have s4 := same_new h4 (.tup [.str "call", .str "add", .ref a3])
      exact q _ _ _ (s1.trans (s2.trans (s3.trans s4))) (tm_call upd_same (s4 _ _ upd_same) (by show 2 <= 1000; decide) (tms2 (TmIs.same (sameT (s2.trans (s3.trans s4))) t1 ht1) (TmIs.same (sameT (s3.trans s4)) t2 ht2))) ((tg2 g1 g2 (mk_of (by decide))).mono (by omega) (by omega))
theorem ok_wide0 (X : Tx K w mg T) : FnOk P w K mg base CX0 6 T.qwide T.d_qwide ["_law_kind", "_law_many"] spWide0 := by
  have G_qsum := ok_sum (P := P) (w := w) (base := base) X 4
  have G_qwide : FnOk P w K mg base CX0 5 T.qwide T.d_qwide ["_law_kind", "_law_many"] (fun _ _ _ _ => False) := ⟨fun _ _ _ _ h => h.elim, fun _ _ _ _ _ _ _ _ _ _ _ _ _ h => h.elim⟩
  refine X.F_qwide.okQ sc_qwide (fun vs H Q E h => ?_) (fun cdv A outer s H vs Q E hr h => ?_)
  · obtain ⟨_, _, rfl, _⟩ := h
    rfl
  obtain ⟨Ev, m, rfl, hm, q⟩ := h
  refine ⟨_, (qss_cons (qs_if (qt_cmpR op_eq (qv 0) qe_str (nomark _)) (qss_one (qs_ret (qe_tup (qaC qe_str (qaC qe_str (qaT (qe_tup (qaK (qe_call G_qwide hr rfl X.m_qwide X.F_qwide.kp X.b_qwide .nil pass0 (qaC qe_str (qaB (qe_op op_sub (qv 1) qe_int) qa_nil))) qa_nil)) qa_nil)))))) qss_nil) (qss_cons (qs_if (qt_cmpR op_eq (qv 0) qe_str (nomark _)) (qss_one (qs_ret (qe_tup (qaC qe_str (qaC qe_str (qaT (qe_tup (qaK (qe_call G_qwide hr rfl X.m_qwide X.F_qwide.kp X.b_qwide .nil pass0 (qaC qe_str (qaB (qe_op op_sub (qv 1) qe_int) qa_nil))) (qaT (qe_tup (qaC qe_str qa_nil)) (qaT (qe_tup (qaC qe_str qa_nil)) qa_nil)))) qa_nil)))))) qss_nil) (qss_cons (qs_if (qt_cmpR op_eq (qe_op op_mod (qv 1) qe_int) qe_int (nomark _)) (qss_one (qs_ret (qe_tup (qaC qe_str (qaC qe_str (qaT (qe_tup (qaT (qe_tup (qaC qe_str qa_nil)) (qaT (qe_tup (qaC qe_str (qaC qe_int qa_nil))) (qaK (qe_call G_qsum hr rfl X.m_qsum X.F_qsum.kp X.b_qsum .nil pass0 (qaB (qe_op op_fdiv (qe_op op_sub (qv 1) qe_int) qe_int) qa_nil)) qa_nil)))) qa_nil)))))) qss_nil) (qss_one (qs_ret (qe_call G_qsum hr rfl X.m_qsum X.F_qsum.kp X.b_qsum .nil pass0 (qaB (qe_op op_fdiv (qe_op op_add (qv 1) qe_int) qe_int) qa_nil))))))), ?_⟩
  refine ⟨_, rfl, rfl, _, rfl, iteNd (by decide) ?_⟩
  refine ⟨_, rfl, rfl, _, rfl, iteNd (by decide) ?_⟩
  refine ⟨_, rfl, _, _, rfl, rfl, (by show (0 : Int) < 2; decide), rfl, _, rfl, iteDd (fun h => ?_) (fun h => ?_)⟩
  · have e : m % 2 = 0 := V.int.inj h
    have e : m = 30 := by omega
    subst e
    refine ⟨(by show 1 <= sizeLine; decide), fun a1 h1 => ⟨(by show 2 <= sizeLine; decide), fun a2 h2 => ?_⟩⟩
    have s1 := same_new h1 (.tup [.str "mark"])
    have s2 := same_new h2 (.tup [.str "num", .int 7])
    refine ⟨_, rfl, _, _, rfl, rfl, _, _, rfl, rfl, ⟨by decide, by decide⟩, Ev, 14, rfl, by decide, by decide, fun t x H3 s3 ht g => ⟨(by show 3 <= sizeLine; decide), fun a4 h4 => ⟨(by show 3 <= sizeLine; decide), fun a5 h5 => ?_⟩⟩⟩
    have s4 := same_new h4 (.tup [.ref a1, .ref a2, x])
    have s5 := same_new h5 (.tup [.str "call", .str "pick", .ref a4])
    have s45 := s4.trans s5
    exact q _ _ _ (s1.trans (s2.trans (s3.trans s45))) (tm_call upd_same (s5 _ _ upd_same) (by show 3 <= 1000; decide) (tms3 (tm_mark ((s2.trans (s3.trans s45)) _ _ upd_same)) (tm_num ((s3.trans s45) _ _ upd_same)) (TmIs.same (sameT s45) t ht))) (fun _ => (tg3 tg_mark tg_num g (mk_pick "num")).mono (by decide) (by decide)) (fun z => absurd rfl z)
  · have hne : m % 2 ≠ 0 := fun z => h (by show V.int (m % 2) = V.int 0; rw [z])
    have hm2 : m ≠ 30 := fun z => hne (by rw [z]; rfl)
    refine ⟨_, rfl, _, _, rfl, rfl, _, _, rfl, rfl, ⟨by decide, by decide⟩, Ev, (m + 1) / 2, rfl, by omega, by show (m + 1) / 2 <= 16; omega, fun t x H3 s3 ht g => ?_⟩
    exact q _ _ _ s3 ht (fun z => absurd z hm2) (fun _ => g.mono (by decide) (by omega))
theorem ok_wide (X : Tx K w mg T) : FnOk P w K mg base CX0 7 T.qwide T.d_qwide ["_law_kind", "_law_many"] spWide := by
  have G_qsum := (ok_sum (P := P) (w := w) (base := base) X 4).mono (show 5 <= 6 by decide)
  have G_qwide := ok_wide0 (P := P) (w := w) (base := base) X
  refine X.F_qwide.okQ sc_qwide (fun vs H Q E h => ?_) (fun cdv A outer s H vs Q E hr h => ?_)
  · obtain ⟨_, _, rfl, _⟩ := h
    rfl
  obtain ⟨Ev, kd, rfl, hk, q⟩ := h
  refine ⟨_, (qss_cons (qs_if (qt_cmpR op_eq (qv 0) qe_str (nomark _)) (qss_one (qs_ret (qe_tup (qaC qe_str (qaC qe_str (qaT (qe_tup (qaK (qe_call G_qwide hr rfl X.m_qwide X.F_qwide.kp X.b_qwide .nil pass0 (qaC qe_str (qaB (qe_op op_sub (qv 1) qe_int) qa_nil))) qa_nil)) qa_nil)))))) qss_nil) (qss_cons (qs_if (qt_cmpR op_eq (qv 0) qe_str (nomark _)) (qss_one (qs_ret (qe_tup (qaC qe_str (qaC qe_str (qaT (qe_tup (qaK (qe_call G_qwide hr rfl X.m_qwide X.F_qwide.kp X.b_qwide .nil pass0 (qaC qe_str (qaB (qe_op op_sub (qv 1) qe_int) qa_nil))) (qaT (qe_tup (qaC qe_str qa_nil)) (qaT (qe_tup (qaC qe_str qa_nil)) qa_nil)))) qa_nil)))))) qss_nil) (qss_cons (qs_if (qt_cmpR op_eq (qe_op op_mod (qv 1) qe_int) qe_int (nomark _)) (qss_one (qs_ret (qe_tup (qaC qe_str (qaC qe_str (qaT (qe_tup (qaT (qe_tup (qaC qe_str qa_nil)) (qaT (qe_tup (qaC qe_str (qaC qe_int qa_nil))) (qaK (qe_call G_qsum hr rfl X.m_qsum X.F_qsum.kp X.b_qsum .nil pass0 (qaB (qe_op op_fdiv (qe_op op_sub (qv 1) qe_int) qe_int) qa_nil)) qa_nil)))) qa_nil)))))) qss_nil) (qss_one (qs_ret (qe_call G_qsum hr rfl X.m_qsum X.F_qsum.kp X.b_qsum .nil pass0 (qaB (qe_op op_fdiv (qe_op op_add (qv 1) qe_int) qe_int) qa_nil))))))), ?_⟩
  refine ⟨_, rfl, rfl, _, rfl, iteDd (fun h => ?_) (fun n1 => ?_)⟩
  · have e : kd = "text" := V.str.inj h
    refine ⟨_, rfl, _, _, rfl, rfl, Ev, 29, rfl, .inr (.inl rfl), fun t x H3 s3 ht _ g => ⟨(by show 1 <= sizeLine; decide), fun a4 h4 => ⟨(by show 3 <= sizeLine; decide), fun a5 h5 => ?_⟩⟩⟩
    have g := g (by decide)
    have s4 := same_new h4 (.tup [x])
    have s5 := same_new h5 (.tup [.str "call", .str "show", .ref a4])
    exact q _ _ _ (s3.trans (s4.trans s5)) (tm_call upd_same (s5 _ _ upd_same) (by show 1 <= 1000; decide) (tms1 (TmIs.same (sameT (s4.trans s5)) t ht))) (e ▸ (tg1 g (mk_of (by decide))).mono (by decide) (by decide))
  refine ⟨_, rfl, rfl, _, rfl, iteDd (fun h => ?_) (fun n2 => ?_)⟩
  · have e : kd = "row" := V.str.inj h
    refine ⟨_, rfl, _, _, rfl, rfl, Ev, 27, rfl, .inl rfl, fun t x H3 s3 ht _ g => ⟨(by show 1 <= sizeLine; decide), fun a1 h1 => ⟨(by show 1 <= sizeLine; decide), fun a2 h2 => ⟨(by show 3 <= sizeLine; decide), fun a4 h4 => ⟨(by show 3 <= sizeLine; decide), fun a5 h5 => ?_⟩⟩⟩⟩⟩
    have g := g (by decide)
    have s1 := same_new h1 (.tup [.str "row"])
    have s2 := same_new h2 (.tup [.str "row"])
    have s4 := same_new h4 (.tup [x, .ref a1, .ref a2])
    have s5 := same_new h5 (.tup [.str "call", .str "pick", .ref a4])
    have s45 := s4.trans s5
    exact q _ _ _ (s3.trans (s1.trans (s2.trans s45))) (tm_call upd_same (s5 _ _ upd_same) (by show 3 <= 1000; decide) (tms3 (TmIs.same (sameT (s1.trans (s2.trans s45))) t ht) (tm_row ((s2.trans s45) _ _ upd_same)) (tm_row (s45 _ _ upd_same)))) (e ▸ (tg3 g tg_row tg_row (mk_pick "row")).mono (by decide) (by decide))
  have e : kd = "num" := by
    simp only [kinds3, List.mem_cons, List.mem_nil_iff, or_false] at hk
    rcases hk with rfl | rfl | rfl
    · rfl
    · exact absurd rfl n1
    · exact absurd rfl n2
  subst e
  refine ⟨_, rfl, _, _, rfl, rfl, (by show (0 : Int) < 2; decide), rfl, _, rfl, iteYd rfl ?_⟩
  refine ⟨(by show 1 <= sizeLine; decide), fun a1 h1 => ⟨(by show 2 <= sizeLine; decide), fun a2 h2 => ?_⟩⟩
  have s1 := same_new h1 (.tup [.str "mark"])
  have s2 := same_new h2 (.tup [.str "num", .int 7])
  refine ⟨_, rfl, _, _, rfl, rfl, _, _, rfl, rfl, ⟨by decide, by decide⟩, Ev, 14, rfl, by decide, by decide, fun t x H3 s3 ht g => ⟨(by show 3 <= sizeLine; decide), fun a4 h4 => ⟨(by show 3 <= sizeLine; decide), fun a5 h5 => ?_⟩⟩⟩
  have s4 := same_new h4 (.tup [.ref a1, .ref a2, x])
  have s5 := same_new h5 (.tup [.str "call", .str "pick", .ref a4])
  have s45 := s4.trans s5
  exact q _ _ _ (s1.trans (s2.trans (s3.trans s45))) (tm_call upd_same (s5 _ _ upd_same) (by show 3 <= 1000; decide) (tms3 (tm_mark ((s2.trans (s3.trans s45)) _ _ upd_same)) (tm_num ((s3.trans s45) _ _ upd_same)) (TmIs.same (sameT s45) t ht))) ((tg3 tg_mark tg_num g (mk_pick "num")).mono (by decide) (by decide))
theorem ok_deep (X : Tx K w mg T) : FnOk P w K mg base CX0 1 T.qdeep T.d_qdeep ["_law_kind", "_law_level"] spDeep := by
  refine X.F_qdeep.okQ sc_qdeep (fun vs H Q E h => ?_) (fun cdv A outer s H vs Q E hr h => ?_)
  · obtain ⟨_, _, rfl, _⟩ := h
    rfl
  obtain ⟨Ev, kd, rfl, hk, q⟩ := h
  refine ⟨_, (qss_cons (qs_set (i := 2) sc_qdeep.nd rfl (Or.inl rfl) (qe_tup (qaC qe_str (qaC qe_int qa_nil)))) (qss_cons (qs_for PassesOwn.never rfl (qi_range1 rfl X.z_range (qaB (qe_op op_sub (qe_op op_sub (qv 1) qe_int) (qe_callTy call_int1 rfl X.z_int PyProof.Rows.boot_int (qaM (qe_cmpR op_ne (qv 0) qe_str (nomark _)) qa_nil))) qa_nil)) (qg_name (i := 3) sc_qdeep.nd rfl (Or.inl rfl)) (qss_one (qs_set (i := 2) sc_qdeep.nd rfl (Or.inl rfl) (qe_tup (qaC qe_str (qaC qe_str (qaT (qe_tup (qaN (qv 2) (qaT (qe_tup (qaC qe_str (qaN (qv 3) qa_nil))) qa_nil))) qa_nil))))))) (qss_cons (qs_if (qt_cmpR op_eq (qv 0) qe_str (nomark _)) (qss_one (qs_ret (qe_tup (qaC qe_str (qaC qe_str (qaT (qe_tup (qaN (qv 2) qa_nil)) qa_nil)))))) qss_nil) (qss_cons (qs_if (qt_cmpR op_eq (qv 0) qe_str (nomark _)) (qss_one (qs_ret (qe_tup (qaC qe_str (qaC qe_str (qaT (qe_tup (qaT (qe_tup (qaC qe_str qa_nil)) (qaN (qv 2) qa_nil))) qa_nil)))))) qss_nil) (qss_one (qs_ret (qv 2))))))), ?_⟩
  refine ⟨(by show 2 <= sizeLine; decide), fun a0 h0 => ?_⟩
  have s0 := same_new h0 (.tup [.str "num", .int 999999999999999999])
  have t0 := tm_num (upd_same (H := H) (a := a0) (o := .tup [.str "num", .int 999999999999999999]))
  generalize upd H a0 (.tup [.str "num", .int 999999999999999999]) = H0 at s0 t0 ⊢
  obtain ⟨m, hm, m5, mk⟩ : ∃ m : Nat, ((6 : Int) - 1 - (if (!decide (V.str kd = V.str "num")) = true then 1 else 0)) = (m : Int) /\ m <= 5 /\ (kd ≠ "num" -> m <= 4) := by
    by_cases h : V.str kd = V.str "num"
    · rw [decide_eq_true h]
      exact ⟨5, rfl, by decide, fun z => absurd (V.str.inj h) z⟩
    · rw [decide_eq_false h]
      exact ⟨4, rfl, by decide, fun _ => by decide⟩
  refine ⟨_, rfl, _, _, rfl, rfl, _, rfl, rfl, .inr ⟨_, rfl, _, _, rfl, rfl, ?_⟩⟩
  refine ⟨(m : Int), congrArg (fun i : Int => [V.int i]) hm, by omega, by omega, ?_⟩
  refine for_range (n := (m : Int).toNat) (fun i σ H' => Same H H' /\ ∃ (t : Tm) (x : V) (x3 : Option V), σ = [some (.str kd), some (.int 6), some x, x3] /\ TmIs H' t x /\ TmG Ev "num" (1 + i) (1 + 2 * (i : Int)) t) ⟨s0, _, _, none, rfl, t0, tg_num.mono (by omega) (by omega)⟩ ?_ ?_
  · rintro i σ H' hi ⟨sm, t, x, x3, rfl, ht, g⟩
    refine ⟨_, rfl, _, rfl, (by show 2 <= sizeLine; decide), fun a1 h1 => ⟨(by show 2 <= sizeLine; decide), fun a2 h2 => ⟨(by show 3 <= sizeLine; decide), fun a3 h3 => ?_⟩⟩⟩
    have s1 := same_new h1 (.tup [.str "num", .int (0 + (i : Int))])
    have s2 := same_new h2 (.tup [x, .ref a1])
    have s3 := same_new h3 (.tup [.str "call", .str "sub", .ref a2])
    have s23 := s2.trans s3
    exact ⟨sm.trans (s1.trans s23), _, _, _, rfl, tm_call upd_same (s3 _ _ upd_same) (by show 2 <= 1000; decide) (tms2 (TmIs.same (sameT (s1.trans s23)) t ht) (tm_num (s23 _ _ upd_same))), (tg2 g tg_num (mk_of (by decide))).mono (by omega) (by omega)⟩
  · rintro σ H' ⟨sm, t, x, x3, rfl, ht, g⟩
    have em : (m : Int).toNat = m := rfl
    rw [em] at g
    refine ⟨_, rfl, rfl, _, rfl, iteDd (fun h => ?_) (fun n1 => ?_)⟩
    · have e : kd = "text" := V.str.inj h
      have m4 := mk (by rw [e]; decide)
      refine ⟨_, rfl, (by show 1 <= sizeLine; decide), fun a4 h4 => ⟨(by show 3 <= sizeLine; decide), fun a5 h5 => ?_⟩⟩
      have s4 := same_new h4 (.tup [x])
      have s5 := same_new h5 (.tup [.str "call", .str "show", .ref a4])
      exact q _ _ _ (sm.trans (s4.trans s5)) (tm_call upd_same (s5 _ _ upd_same) (by show 1 <= 1000; decide) (tms1 (TmIs.same (sameT (s4.trans s5)) t ht))) (e ▸ (tg1 g (mk_of (by decide))).mono (by omega) (by omega))
    refine ⟨_, rfl, rfl, _, rfl, iteDd (fun h => ?_) (fun n2 => ?_)⟩
    · have e : kd = "row" := V.str.inj h
      have m4 := mk (by rw [e]; decide)
      refine ⟨(by show 1 <= sizeLine; decide), fun a1 h1 => ⟨_, rfl, (by show 2 <= sizeLine; decide), fun a4 h4 => ⟨(by show 3 <= sizeLine; decide), fun a5 h5 => ?_⟩⟩⟩
      have s1 := same_new h1 (.tup [.str "row"])
      have s4 := same_new h4 (.tup [.ref a1, x])
      have s5 := same_new h5 (.tup [.str "call", .str "put", .ref a4])
      exact q _ _ _ (sm.trans (s1.trans (s4.trans s5))) (tm_call upd_same (s5 _ _ upd_same) (by show 2 <= 1000; decide) (tms2 (tm_row ((s4.trans s5) _ _ upd_same)) (TmIs.same (sameT (s1.trans (s4.trans s5))) t ht))) (e ▸ (tg2 tg_row g (mk_of (by decide))).mono (by omega) (by omega))
    have e : kd = "num" := by
      simp only [kinds3, List.mem_cons, List.mem_nil_iff, or_false] at hk
      rcases hk with rfl | rfl | rfl
      · rfl
      · exact absurd rfl n1
      · exact absurd rfl n2
    exact ⟨_, rfl, q _ _ _ sm ht (e ▸ g.mono (by omega) (by omega))⟩
end
end K12
namespace K12
open PySem L2
open TM 
def PlIs (H : Hp) (e : Nat × Nat) (v : V) : Prop := ∃ p, v = .ref p /\ H p = some (.tup [.int (e.1 : Int), .int (e.2 : Int)])
theorem PlIs.same {H H' : Hp} (s : SameT H H') {e : Nat × Nat} {v : V} (h : PlIs H e v) : PlIs H' e v := by
  obtain ⟨p, a, b⟩ := h
  exact ⟨p, a, s _ _ b⟩
def PlOk (g : Gr) (e : Nat × Nat) : Prop := ∃ f, g.fm[e.1]? = some f /\ e.2 < f.ru.length
def spPlaces : Sp := fun vs H Q _ => ∃ (g : Gr) (v : V), vs = [v] /\ GrIs H g v /\ g.fm.length <= 10 /\ (∀ f ∈ g.fm, f.ru.length <= 8) /\ (∃ f ∈ g.fm, f.ru ≠ []) /\
  ∀ (D : Addr) (us : List V) (es : List (Nat × Nat)) (H' : Hp), Same H H' -> H' D = some (.lst us) -> L2R (PlIs H') es us -> (∀ e ∈ es, PlOk g e) -> es ≠ [] -> es.length <= 100 -> Q (.ref D) H'
def putF (g : Gr) (n : Nat) (f : Fm) : Gr := ⟨g.sg, g.fm.take n ++ [f] ++ g.fm.drop (n + 1)⟩
def putR (f : Fm) (n : Nat) (r : Ru) : Fm := ⟨f.nm, f.hd, f.br, f.ru.take n ++ [r] ++ f.ru.drop (n + 1)⟩
def spWithForm : Sp := fun vs H Q _ => ∃ (g : Gr) (f : Fm) (vg vf : V) (n : Nat), vs = [vg, .int (n : Int), vf] /\ GrIs H g vg /\ FmIs H f vf /\ g.fm.length <= 10 /\ ∀ v H', Same H H' -> GrIs H' (putF g n f) v -> Q v H'
def spWithRule : Sp := fun vs H Q _ => ∃ (g : Gr) (f : Fm) (r : Ru) (vg vp vr : V) (e : Nat × Nat), vs = [vg, vp, vr] /\ GrIs H g vg /\ PlIs H e vp /\ RuIs H r vr /\ g.fm[e.1]? = some f /\ g.fm.length <= 10 /\ f.ru.length <= 8 /\ ∀ v H', Same H H' -> GrIs H' (putF g e.1 (putR f e.2 r)) v -> Q v H'
def spKindAt : Sp := fun vs H Q _ => ∃ (g : Gr) (f : Fm) (ss : List Sg) (vg vf : V) (k : Int) (z kd : Str), vs = [vg, vf, .int k, .str z] /\ GrIs H g vg /\ FmIs H f vf /\ GrV g /\ FormV g f ss /\ EV ss k z kd /\ ∀ H', Same H H' -> Q (.str kd) H'
def spEdged : Sp := fun vs H Q _ => ∃ (g : Gr) (v : V) (c : Int), vs = [v, .int c] /\ GrIs H g v /\ GrV g /\ (∃ f ∈ g.fm, f.ru ≠ []) /\ ∀ v' g' H', Same H H' -> GrIs H' g' v' -> GrV g' -> Q v' H'
def turnF (f : Fm) : Fm := ⟨f.nm, f.hd, f.br, f.ru.reverse⟩
def turnG (g : Gr) : Gr := ⟨g.sg.reverse, (g.fm.map turnF).reverse⟩
def spTurned : Sp := fun vs H Q _ => ∃ (g : Gr) (v : V), vs = [v] /\ GrIs H g v /\ g.fm.length <= 10 /\ g.sg.length <= 10 /\ ∀ v' H', Same H H' -> GrIs H' (turnG g) v' -> Q v' H'
theorem l2r_rev {α : Type} {R : α -> V -> Prop} : ∀ {as : List α} {vs : List V}, L2R R as vs -> L2R R as.reverse vs.reverse
  | _, _, .nil => .nil
  | _, _, .cons x y => by rw [List.reverse_cons, List.reverse_cons]; exact (l2r_rev y).snoc x
theorem fmv_turn {g : Gr} {f : Fm} {ss : List Sg} (h : FormV g f ss) : FormV (turnG g) (turnF f) ss := by
  refine ⟨fun s hs => by show s ∈ g.sg.reverse; simpa using h.mem s hs, ⟨h.fm.nm, ?_, fun r hr => h.fm.ok r (by have : r ∈ f.ru.reverse := hr; simpa using this)⟩, h.l1, h.l4⟩
  show (f.ru.reverse.map keyR).Perm _
  rw [List.map_reverse]
  exact (List.reverse_perm _).trans h.fm.ru
theorem grv_turn {g : Gr} (h : GrV g) : GrV (turnG g) := by
  refine ⟨⟨fun s hs => h.sg.g s (by have : s ∈ g.sg.reverse := hs; simpa using this), ?_, by show 1 <= g.sg.reverse.length; rw [List.length_reverse]; exact h.sg.l1, by show g.sg.reverse.length <= 6; rw [List.length_reverse]; exact h.sg.l6⟩, fun f hf => ?_, ?_, ?_⟩
  · show (g.sg.reverse.map Sg.nm).Nodup
    rw [List.map_reverse]
    exact (List.reverse_perm _).nodup_iff.mpr h.sg.nd
  · have hf : f ∈ (g.fm.map turnF).reverse := hf
    obtain ⟨f', hf', rfl⟩ := List.mem_map.mp (List.mem_reverse.mp hf)
    obtain ⟨ss, fv⟩ := h.fm f' hf'
    exact ⟨ss, fmv_turn fv⟩
  · show ((g.fm.map turnF).reverse.map Fm.nm).Nodup
    rw [List.map_reverse, List.map_map]
    exact (List.reverse_perm _).nodup_iff.mpr h.nd
  · show (g.fm.map turnF).reverse.length <= 10
    rw [List.length_reverse, List.length_map]
    exact h.l10
theorem take_put {α : Type} {l : List α} {n : Nat} {x : α} (h : l[n]? = some x) : l.take n ++ [x] ++ l.drop (n + 1) = l := by
  rw [<- take_snocA h, List.take_append_drop]
theorem grv_put {g : Gr} (gg : GrV g) {n m : Nat} {f : Fm} {r : Ru} {ss : List Sg} {t : Tm} {kd : Str} (hf : g.fm[n]? = some f) (fv : FormV g f ss) (hr : f.ru[m]? = some r) (hk : kd ∈ kinds3) (he : EV ss r.k r.nm kd) (ht : TmG (EV ss) kd 6 30 t) : GrV (putF g n (putR f m ⟨r.k, r.nm, t⟩)) := by
  have hmr : (putR f m ⟨r.k, r.nm, t⟩).ru.map keyR = f.ru.map keyR := by
    show (f.ru.take m ++ [(⟨r.k, r.nm, t⟩ : Ru)] ++ f.ru.drop (m + 1)).map keyR = _
    conv => rhs; rw [<- take_put hr]
    simp only [List.map_append, List.map_cons, List.map_nil]
    rfl
  have hmf : (putF g n (putR f m ⟨r.k, r.nm, t⟩)).fm.map Fm.nm = g.fm.map Fm.nm := by
    show (g.fm.take n ++ [putR f m ⟨r.k, r.nm, t⟩] ++ g.fm.drop (n + 1)).map Fm.nm = _
    conv => rhs; rw [<- take_put hf]
    simp only [List.map_append, List.map_cons, List.map_nil]
    rfl
  refine ⟨gg.sg, fun f' hf' => ?_, by rw [hmf]; exact gg.nd, by have := congrArg List.length hmf; rw [List.length_map, List.length_map] at this; rw [this]; exact gg.l10⟩
  have old : ∀ f', f' ∈ g.fm -> ∃ ss, FormV (putF g n (putR f m ⟨r.k, r.nm, t⟩)) f' ss := fun f' h => by
    obtain ⟨s', v'⟩ := gg.fm f' h
    exact ⟨s', v'.mem, v'.fm, v'.l1, v'.l4⟩
  have hf' : f' ∈ g.fm.take n ++ [putR f m ⟨r.k, r.nm, t⟩] ++ g.fm.drop (n + 1) := hf'
  rcases List.mem_append.mp hf' with h | h
  · rcases List.mem_append.mp h with h | h
    · exact old f' (List.mem_of_mem_take h)
    · rw [List.mem_singleton.mp h]
      refine ⟨ss, fv.mem, ⟨fv.fm.nm, by rw [hmr]; exact fv.fm.ru, fun r' hr' => ?_⟩, fv.l1, fv.l4⟩
      have hr' : r' ∈ f.ru.take m ++ [(⟨r.k, r.nm, t⟩ : Ru)] ++ f.ru.drop (m + 1) := hr'
      rcases List.mem_append.mp hr' with h | h
      · rcases List.mem_append.mp h with h | h
        · exact fv.fm.ok r' (List.mem_of_mem_take h)
        · rw [List.mem_singleton.mp h]
          exact ⟨kd, hk, he, ht⟩
      · exact fv.fm.ok r' (List.mem_of_mem_drop h)
  · exact old f' (List.mem_of_mem_drop h)
section
variable {P : Program} {w : World} {K : PySem.W.Frag} {mg : Str -> Option Value} {base : Heap} {T : Adr}
theorem ok_places (X : Tx K w mg T) : FnOk P w K mg base CX0 1 T.qplaces T.d_qplaces ["_law_grammar_here"] spPlaces := by
  refine X.F_qplaces.okQ sc_qplaces (fun vs H Q E h => ?_) (fun cdv A outer s H vs Q E hr h => ?_)
  · obtain ⟨_, _, rfl, _⟩ := h
    rfl
  obtain ⟨g, v, rfl, hg, l10, l8, ⟨f0, mf0, nf0⟩, q⟩ := h
  obtain ⟨gp, ga, gb, gus, gws, rfl, hgp, hga, hsg, hgb, hfm⟩ := hg
  have lf := hfm.len
  refine ⟨_, (qss_cons (qs_set (i := 1) sc_qplaces.nd rfl (Or.inl rfl) (qe_lst qa_nil)) (qss_cons (qs_for PassesOwn.never rfl (qi_range1 rfl X.z_range (qaK (qe_callB call_len_seq rfl X.z_len PySem.boot_len (qaS (qe_ix ix_tup (qv 0) qe_int (fun _ _ => rfl)) qa_nil)) qa_nil)) (qg_name (i := 2) sc_qplaces.nd rfl (Or.inl rfl)) (qss_one (qs_for PassesOwn.never rfl (qi_range1 rfl X.z_range (qaK (qe_callB call_len_seq rfl X.z_len PySem.boot_len (qaS (qe_ix ix_tup (qe_ix ix_tup (qe_ix ix_tup (qv 0) qe_int (fun _ _ => rfl)) (qv 2) (fun _ _ => rfl)) qe_int (fun _ _ => rfl)) qa_nil)) qa_nil)) (qg_name (i := 3) sc_qplaces.nd rfl (Or.inl rfl)) (qss_one (qs_expr (qe_bm PySem.F.plainAttrs_list PySem.F.slot_list_append PySem.F.type_list_append mt_append (qv 1) (qaT (qe_tup (qaN (qv 2) (qaN (qv 3) qa_nil))) qa_nil))))))) (qss_one (qs_ret (qv 1))))), ?_⟩
  refine ⟨(by show 0 <= sizeLine; decide), fun D hD => ?_⟩
  have s0 := same_new hD (.lst [])
  refine ⟨_, rfl, gp, _, 1, .ref gb, rfl, rfl, SqT.of (s0 _ _ hgp), rfl, gb, _, rfl, .inr (SqT.of (s0 _ _ hgb)), _, rfl, by omega, by omega, ?_⟩
  refine for_range (n := ((gws.length : Nat) : Int).toNat) (fun i σ H' => Same H H' /\ ∃ (us : List V) (es : List (Nat × Nat)) (x2 x3 : Option V), σ = [some (.ref gp), some (.ref D), x2, x3] /\ H' D = some (.lst us) /\ L2R (PlIs H') es us /\ (∀ e ∈ es, PlOk g e) /\ es.length <= 8 * i /\ (∀ f ∈ g.fm.take i, f.ru ≠ [] -> es ≠ []))
    ⟨s0, [], [], none, none, rfl, upd_same, .nil, (fun e h => nomatch h), by simp, (fun f h => by simp at h)⟩ ?_ ?_
  · rintro i σ H' hi ⟨sm, us, es, x2, x3, rfl, hD', hes, oes, les, nes⟩
    obtain ⟨f, hf⟩ := some_of_lt (xs := g.fm) (i := i) (by omega)
    obtain ⟨vf, hvf, hfi⟩ := L2R.at hfm hf
    obtain ⟨fp, fa, fb, fus, rfl, hfp, hfa, hfb, hru⟩ := hfi
    have lr := hru.len
    have lr8 := l8 f (List.mem_of_getElem? hf)
    have e0 : (0 + (i : Int)) = (i : Int) := by omega
    refine ⟨_, rfl, gp, _, 1, .ref gb, rfl, rfl, SqT.of (sm _ _ hgp), rfl, _, rfl, gb, _, _, .ref fp, rfl, rfl, SqT.of (sm _ _ hgb), (by rw [e0]; exact atI_nat hvf), fp, _, 3, .ref fb, rfl, rfl, SqT.of (sm _ _ hfp), rfl, fb, _, rfl, .inr (SqT.of (sm _ _ hfb)), _, rfl, by omega, by omega, ?_⟩
    refine for_range (n := ((fus.length : Nat) : Int).toNat) (fun j σ H2 => Same H H2 /\ ∃ (us2 : List V) (es2 : List (Nat × Nat)) (y3 : Option V), σ = [some (.ref gp), some (.ref D), some (.int (0 + (i : Int))), y3] /\ H2 D = some (.lst us2) /\ L2R (PlIs H2) es2 us2 /\ (∀ e ∈ es2, PlOk g e) /\ es2.length <= 8 * i + j /\ (es ≠ [] -> es2 ≠ []) /\ (0 < j -> es2 ≠ []))
      ⟨sm, us, es, _, rfl, hD', hes, oes, by omega, id, (fun h => absurd h (Nat.lt_irrefl 0))⟩ ?_ ?_
    · rintro j σ H2 hj ⟨sm2, us2, es2, y3, rfl, hD2, hes2, oes2, les2, n1, n2⟩
      have lu := hes2.len
      refine ⟨_, rfl, .inl ⟨rfl, _, SqL.of hD2⟩, _, rfl, _, rfl, (by show 2 <= sizeLine; decide), fun p hp => ?_⟩
      have s3 := same_new hp (.tup [.int (0 + (i : Int)), .int (0 + (j : Int))])
      have hD3 := s3 _ _ hD2
      have TL := sameT_lst (ys := us2 ++ [.ref p]) hD3
      refine ⟨D, us2, _, rfl, rfl, hD3, fitsL (by omega), same_upd hD (sm2.trans s3), us2 ++ [.ref p], es2 ++ [(i, j)], _, rfl, upd_same, (hes2.imp fun _ _ h => PlIs.same ((sameT s3).trans TL) h).snoc ⟨p, rfl, TL _ _ ?_⟩, fun e he => ?_, by rw [List.length_append, List.length_singleton]; omega, fun _ => by simp, fun _ => by simp⟩
      · rw [upd_same, e0, show (0 + (j : Int)) = (j : Int) by omega]
      · rcases List.mem_append.mp he with h | h
        · exact oes2 e h
        · rw [List.mem_singleton.mp h]
          exact ⟨f, hf, by show j < f.ru.length; omega⟩
    · rintro σ H2 ⟨sm2, us2, es2, y3, rfl, hD2, hes2, oes2, les2, n1, n2⟩
      refine ⟨sm2, us2, es2, _, _, rfl, hD2, hes2, oes2, by omega, fun f' hf' hn => ?_⟩
      rw [take_snocA hf] at hf'
      rcases List.mem_append.mp hf' with h | h
      · exact n1 (nes f' h hn)
      · have e : f' = f := List.mem_singleton.mp h
        subst e
        refine n2 ?_
        have : f'.ru.length ≠ 0 := fun z => hn (List.length_eq_zero_iff.mp z)
        omega
  · rintro σ H' ⟨sm, us, es, x2, x3, rfl, hD', hes, oes, les, nes⟩
    refine ⟨_, rfl, q D us es H' sm hD' hes oes (nes f0 ?_ nf0) (by omega)⟩
    rw [List.take_of_length_le (by omega)]
    exact mf0
theorem ok_withform (X : Tx K w mg T) : FnOk P w K mg base CX0 1 T.qwithform T.d_qwithform ["_law_grammar_here", "_law_f", "_law_form_here"] spWithForm := by
  refine X.F_qwithform.okQ sc_qwithform (fun vs H Q E h => ?_) (fun cdv A outer s H vs Q E hr h => ?_)
  · obtain ⟨_, _, _, _, _, rfl, _⟩ := h
    rfl
  obtain ⟨g, f, vg, vf, n, rfl, hg, hf, l10, q⟩ := h
  obtain ⟨gp, ga, gb, gus, gws, rfl, hgp, hga, hsg, hgb, hfm⟩ := hg
  have lf := hfm.len
  refine ⟨_, (qss_one (qs_ret (qe_tup (qaS (qe_ix ix_tup (qv 0) qe_int (fun _ _ => rfl)) (qaB (qe_op op_catA (qe_op op_catA (qe_slice sl_tupA (qe_ix ix_tup (qv 0) qe_int (fun _ _ => rfl)) qo_none (qo_some (qv 1))) (qe_tup (qaN (qv 2) qa_nil))) (qe_slice sl_tupA (qe_ix ix_tup (qv 0) qe_int (fun _ _ => rfl)) (qo_some (qe_op op_add (qv 1) qe_int)) qo_none)) qa_nil))))), ?_⟩
  refine ⟨_, rfl, gp, _, 0, .ref ga, rfl, rfl, SqT.of hgp, rfl, _, rfl, gp, _, 1, .ref gb, rfl, rfl, SqT.of hgp, rfl, _, rfl, _, rfl, gb, _, rfl, hgb, fun p1 H1 s1 hp1 => ?_⟩
  rw [cut_take' gws n] at hp1
  refine ⟨_, rfl, (by show 1 <= sizeLine; decide), fun p2 hp2 => ?_⟩
  have s2 := same_new hp2 (.tup [vf])
  refine ⟨p1, p2, gws.take n, [vf], rfl, rfl, s2 _ _ hp1, upd_same, fits2 (by rw [List.length_take]; simp; omega), fun p3 H3 s3 hp3 => ?_⟩
  have sA := s1.trans (s2.trans s3)
  refine ⟨_, rfl, gp, _, 1, .ref gb, rfl, rfl, SqT.of (sA _ _ hgp), rfl, _, rfl, _, _, rfl, rfl, _, rfl, gb, _, rfl, sA _ _ hgb, fun p4 H4 s4 hp4 => ?_⟩
  rw [show ((n : Int) + 1) = ((n + 1 : Nat) : Int) by omega, cut_drop' gws (n + 1)] at hp4
  refine ⟨p3, p4, gws.take n ++ [vf], gws.drop (n + 1), rfl, rfl, s4 _ _ hp3, hp4, fits2 (by rw [List.length_append, List.length_take, List.length_drop]; simp; omega), fun p5 H5 s5 hp5 => ⟨(by show 2 <= sizeLine; decide), fun p6 hp6 => ?_⟩⟩
  have s6 := same_new hp6 (.tup [.ref ga, .ref p5])
  have sB := sA.trans (s4.trans (s5.trans s6))
  refine q _ _ sB ⟨p6, ga, p5, gus, _, rfl, upd_same, sB _ _ hga, hsg.imp fun _ _ h => SgIs.same (sameT sB) h, s6 _ _ hp5, ?_⟩
  have hfm' : L2R (FmIs (upd H5 p6 (.tup [.ref ga, .ref p5]))) g.fm gws := hfm.imp fun _ _ h => FmIs.same (sameT sB) h
  exact ((l2r_take n hfm').snoc (FmIs.same (sameT sB) hf)).app (l2r_drop (n + 1) hfm')
theorem ok_withrule (X : Tx K w mg T) : FnOk P w K mg base CX0 2 T.qwithrule T.d_qwithrule ["_law_grammar_here", "_law_place", "_law_rule"] spWithRule := by
  have G_qwithform := ok_withform (P := P) (w := w) (base := base) X
  refine X.F_qwithrule.okQ sc_qwithrule (fun vs H Q E h => ?_) (fun cdv A outer s H vs Q E hr h => ?_)
  · obtain ⟨_, _, _, _, _, _, _, rfl, _⟩ := h
    rfl
  obtain ⟨g, f, r, vg, vp, vr, ⟨n, m⟩, rfl, hg, hpl, hr', hf, l10, l8, q⟩ := h
  have hg0 := hg
  obtain ⟨gp, ga, gb, gus, gws, rfl, hgp, hga, hsg, hgb, hfm⟩ := hg
  obtain ⟨pp, rfl, hpp⟩ := hpl
  have hf : g.fm[n]? = some f := hf
  have hpp : H pp = some (.tup [.int (n : Int), .int (m : Int)]) := hpp
  obtain ⟨vf, hvf, hfi⟩ := L2R.at hfm hf
  obtain ⟨fp, fa, fb, fus, rfl, hfp, hfa, hfb, hru⟩ := hfi
  have lr := hru.len
  refine ⟨_, (qss_cons (qs_set (i := 3) sc_qwithrule.nd rfl (Or.inl rfl) (qe_ix ix_tup (qe_ix ix_tup (qv 0) qe_int (fun _ _ => rfl)) (qe_ix ix_tup (qv 1) qe_int (fun _ _ => rfl)) (fun _ _ => rfl))) (qss_cons (qs_set (i := 4) sc_qwithrule.nd rfl (Or.inl rfl) (qe_op op_catA (qe_op op_catA (qe_slice sl_tupA (qe_ix ix_tup (qv 3) qe_int (fun _ _ => rfl)) qo_none (qo_some (qe_ix ix_tup (qv 1) qe_int (fun _ _ => rfl)))) (qe_tup (qaN (qv 2) qa_nil))) (qe_slice sl_tupA (qe_ix ix_tup (qv 3) qe_int (fun _ _ => rfl)) (qo_some (qe_op op_add (qe_ix ix_tup (qv 1) qe_int (fun _ _ => rfl)) qe_int)) qo_none))) (qss_one (qs_ret (qe_call G_qwithform hr rfl X.m_qwithform X.F_qwithform.kp X.b_qwithform .nil pass0 (qaN (qv 0) (qaS (qe_ix ix_tup (qv 1) qe_int (fun _ _ => rfl)) (qaT (qe_tup (qaS (qe_ix ix_tup (qv 3) qe_int (fun _ _ => rfl)) (qaS (qe_ix ix_tup (qv 3) qe_int (fun _ _ => rfl)) (qaS (qe_ix ix_tup (qv 3) qe_int (fun _ _ => rfl)) (qaN (qv 4) qa_nil))))) qa_nil)))))))), ?_⟩
  refine ⟨_, rfl, gp, _, 1, .ref gb, rfl, rfl, SqT.of hgp, rfl, _, rfl, pp, _, 0, .int (n : Int), rfl, rfl, SqT.of hpp, rfl, gb, _, _, .ref fp, rfl, rfl, SqT.of hgb, atI_nat hvf, ?_⟩
  refine ⟨_, rfl, fp, _, 3, .ref fb, rfl, rfl, SqT.of hfp, rfl, _, rfl, pp, _, 1, .int (m : Int), rfl, rfl, SqT.of hpp, rfl, _, rfl, fb, _, rfl, hfb, fun p1 H1 s1 hp1 => ?_⟩
  rw [cut_take' fus m] at hp1
  refine ⟨_, rfl, (by show 1 <= sizeLine; decide), fun p2 hp2 => ?_⟩
  have s2 := same_new hp2 (.tup [vr])
  refine ⟨p1, p2, fus.take m, [vr], rfl, rfl, s2 _ _ hp1, upd_same, fits2 (by rw [List.length_take]; simp; omega), fun p3 H3 s3 hp3 => ?_⟩
  have sA := s1.trans (s2.trans s3)
  refine ⟨_, rfl, fp, _, 3, .ref fb, rfl, rfl, SqT.of (sA _ _ hfp), rfl, _, rfl, pp, _, 1, .int (m : Int), rfl, rfl, SqT.of (sA _ _ hpp), rfl, _, _, rfl, rfl, _, rfl, fb, _, rfl, sA _ _ hfb, fun p4 H4 s4 hp4 => ?_⟩
  rw [show ((m : Int) + 1) = ((m + 1 : Nat) : Int) by omega, cut_drop' fus (m + 1)] at hp4
  refine ⟨p3, p4, fus.take m ++ [vr], fus.drop (m + 1), rfl, rfl, s4 _ _ hp3, hp4, fits2 (by rw [List.length_append, List.length_take, List.length_drop]; simp; omega), fun p5 H5 s5 hp5 => ?_⟩
  have sB := sA.trans (s4.trans s5)
  have hru' : L2R (RuIs H5) f.ru fus := hru.imp fun _ _ h => RuIs.same (sameT sB) h
  have hrs : L2R (RuIs H5) (f.ru.take m ++ [r] ++ f.ru.drop (m + 1)) (fus.take m ++ [vr] ++ fus.drop (m + 1)) := ((l2r_take m hru').snoc (RuIs.same (sameT sB) hr')).app (l2r_drop (m + 1) hru')
  refine ⟨_, rfl, _, rfl, pp, _, 0, .int (n : Int), rfl, rfl, SqT.of (sB _ _ hpp), rfl, _, rfl, fp, _, 0, .str f.nm, rfl, rfl, SqT.of (sB _ _ hfp), rfl, _, rfl, fp, _, 1, .str f.hd, rfl, rfl, SqT.of (sB _ _ hfp), rfl, _, rfl, fp, _, 2, .ref fa, rfl, rfl, SqT.of (sB _ _ hfp), rfl, _, rfl, (by show 4 <= sizeLine; decide), fun p6 hp6 => ?_⟩
  have s6 := same_new hp6 (.tup [.str f.nm, .str f.hd, .ref fa, .ref p5])
  refine ⟨g, putR f m r, _, _, n, rfl, GrIs.same (sameT (sB.trans s6)) hg0, ⟨p6, fa, p5, _, rfl, upd_same, (sB.trans s6) _ _ hfa, s6 _ _ hp5, hrs.imp fun _ _ h => RuIs.same (sameT s6) h⟩, l10, fun v H7 s7 hv => q v H7 (sB.trans (s6.trans s7)) hv⟩
theorem ok_kindat (X : Tx K w mg T) : FnOk P w K mg base CX0 1 T.qkindat T.d_qkindat ["_law_grammar_here", "_law_form_here", "_law_k", "_law_name"] spKindAt := by
  refine X.F_qkindat.okQ sc_qkindat (fun vs H Q E h => ?_) (fun cdv A outer s H vs Q E hr h => ?_)
  · obtain ⟨_, _, _, _, _, _, _, _, rfl, _⟩ := h
    rfl
  obtain ⟨g, f, ss, vg, vf, k, z, kd, rfl, hg, hf, gg, fv, ⟨b, hev⟩, q⟩ := h
  obtain ⟨gp, ga, gb, gus, gws, rfl, hgp, hga, hsg, hgb, hfm⟩ := hg
  obtain ⟨fp, fa, fb, fus, rfl, hfp, hfa, hfb, hru⟩ := hf
  have lb := fm_br fv
  have l4 := fv.l4
  obtain ⟨i, s0, hs0, hk, pr, hpr, hz, hkd⟩ := vlF_mem ss 0 _ hev
  have hk : k = (i : Int) := by have : k = ((0 + i : Nat) : Int) := hk; omega
  have hz : z = pr.1 := hz
  have hkd : kd = pr.2 := hkd
  subst hk
  have hnm : ([V.str f.hd] ++ f.br.map V.str)[i]? = some (.str s0.nm) := by
    have e : [V.str f.hd] ++ f.br.map V.str = (ss.map Sg.nm).map V.str := by rw [fv.fm.nm]; rfl
    rw [e, List.getElem?_map, List.getElem?_map, hs0]
    rfl
  obtain ⟨j0, hj0⟩ := List.getElem?_of_mem (fv.mem s0 (List.mem_of_getElem? hs0))
  refine ⟨_, (qss_cons (qs_for PassesOwn.never rfl (qi_tup (qe_ix ix_tup (qv 0) qe_int (fun _ _ => rfl))) (qg_name (i := 4) sc_qkindat.nd rfl (Or.inl rfl)) (qss_one (qs_if (qt_cmpR op_eq (qe_ix ix_tup (qv 4) qe_int (fun _ _ => rfl)) (qe_ix ix_tup (qe_op op_catA (qe_tup (qaS (qe_ix ix_tup (qv 1) qe_int (fun _ _ => rfl)) qa_nil)) (qe_ix ix_tup (qv 1) qe_int (fun _ _ => rfl))) (qv 2) (fun _ _ => rfl)) (nomark _)) (qss_one (qs_for PassesOwn.never rfl (qi_tup (qe_op op_catA (qe_ix ix_tup (qv 4) qe_int (fun _ _ => rfl)) (qe_ix ix_tup (qv 4) qe_int (fun _ _ => rfl)))) (qg_tup rfl (qgs_cons (qg_name (i := 5) sc_qkindat.nd rfl (Or.inl rfl)) (qgs_cons (qg_name (i := 6) sc_qkindat.nd rfl (Or.inl rfl)) qgs_nil))) (qss_one (qs_if (qt_cmpR op_eq (qv 5) (qv 3) (nomark _)) (qss_one (qs_ret (qv 6))) qss_nil)))) qss_nil))) (qss_one (qs_ret qe_str))), ?_⟩
  refine ⟨_, rfl, gp, _, 0, .ref ga, rfl, rfl, SqT.of hgp, rfl, ga, rfl, ⟨_, SqT.of hga⟩, ?_⟩
  refine for_tup (K := K) (a := ga) (xs := gus) (fun j σ H' => Same H H' /\ j <= j0 /\ ∃ x4 x5 x6 : Option V, σ = [some (.ref gp), some (.ref fp), some (.int (i : Int)), some (.str z), x4, x5, x6]) ⟨Same.refl _, Nat.zero_le _, none, none, none, rfl⟩ (fun j σ H' _ ⟨sm, _⟩ => SqT.of (sm _ _ hga)) ?_ ?_
  · rintro j v σ H' hv ⟨sm, hj, x4, x5, x6, rfl⟩
    obtain ⟨s, hs, p, da, ua, dus, uus, rfl, hp, hda, hdn, hua, hup⟩ := hsg.get hv
    have sg := gg.sg.g s (List.mem_of_getElem? hs)
    have ld := sg.ld
    have lu := sg.lu
    have e1 := hdn.len
    have e2 := hup.len
    refine ⟨_, rfl, p, _, 0, .str s.nm, rfl, rfl, SqT.of (sm _ _ hp), rfl, _, rfl, fp, _, 1, .str f.hd, rfl, rfl, SqT.of (sm _ _ hfp), rfl, (by show 1 <= sizeLine; decide), fun t1 ht1 => ?_⟩
    have s1 := same_new ht1 (.tup [.str f.hd])
    have sm1 := sm.trans s1
    refine ⟨_, rfl, fp, _, 2, .ref fa, rfl, rfl, SqT.of (sm1 _ _ hfp), rfl, t1, fa, [.str f.hd], f.br.map V.str, rfl, rfl, upd_same, sm1 _ _ hfa, fits2 (by rw [List.length_map]; simp; omega), fun t2 H2 s2 ht2 => ?_⟩
    have sm2 := sm1.trans s2
    refine ⟨_, rfl, t2, _, _, .str s0.nm, rfl, rfl, SqT.of ht2, atI_nat hnm, rfl, _, rfl, iteDd (fun h => ?_) (fun h => ?_)⟩
    · have hnn : s.nm = s0.nm := V.str.inj h
      have hjj : j = j0 := nd_ix gg.sg.nd (by rw [List.getElem?_map, hs]; rfl) (by rw [List.getElem?_map, hj0, hnn]; rfl)
      subst hjj
      rw [hs] at hj0
      have es : s = s0 := Option.some.inj hj0
      subst es
      refine ⟨_, rfl, p, _, 1, .ref da, rfl, rfl, SqT.of (sm2 _ _ hp), rfl, _, rfl, p, _, 2, .ref ua, rfl, rfl, SqT.of (sm2 _ _ hp), rfl, da, ua, dus, uus, rfl, rfl, sm2 _ _ hda, sm2 _ _ hua, fits2 (by omega), fun t3 H3 s3 ht3 => ?_⟩
      have sm3 := sm2.trans s3
      have hprs : L2R (PrIs H3) (s.dn ++ s.up) (dus ++ uus) := (hdn.imp fun _ _ h => PrIs.same (sameT sm3) h).app (hup.imp fun _ _ h => PrIs.same (sameT sm3) h)
      obtain ⟨m0, hm0⟩ := List.getElem?_of_mem hpr
      have lprs := hprs.len
      refine ⟨t3, rfl, ⟨_, SqT.of ht3⟩, ?_⟩
      refine for_tup (K := K) (a := t3) (xs := dus ++ uus) (fun m σ H4 => Same H3 H4 /\ m <= m0 /\ ∃ y5 y6 : Option V, σ = [some (.ref gp), some (.ref fp), some (.int (i : Int)), some (.str z), some (.ref p), y5, y6]) ⟨Same.refl _, Nat.zero_le _, _, _, rfl⟩ (fun m σ H4 _ ⟨sm4, _⟩ => SqT.of (sm4 _ _ ht3)) ?_ ?_
      · rintro m v4 σ H4 hv4 ⟨sm4, hm, y5, y6, rfl⟩
        obtain ⟨⟨nm, kd'⟩, hnk, q4, rfl, hq4⟩ := hprs.get hv4
        refine ⟨q4, _, rfl, SqT.of (sm4 _ _ hq4), rfl, _, _, rfl, _, _, rfl, rfl, ?_⟩
        refine ⟨_, rfl, _, rfl, rfl, _, rfl, iteDd (fun h => ?_) (fun h => ?_)⟩
        · have hn : nm = z := V.str.inj h
          have hmm : m = m0 := nd_ix sg.nd (by rw [List.getElem?_map, hnk]; rfl) (by rw [List.getElem?_map, hm0, hn, hz]; rfl)
          subst hmm
          rw [hnk] at hm0
          cases hm0
          have : kd = kd' := hkd
          subst this
          exact ⟨_, rfl, q H4 (sm3.trans sm4)⟩
        · refine ⟨sm4, ?_, _, _, rfl⟩
          have : m ≠ m0 := fun e => h (by
            subst e
            rw [hnk] at hm0
            cases hm0
            exact congrArg V.str hz.symm)
          omega
      · rintro σ H4 ⟨sm4, hm, y5, y6, rfl⟩
        have := lt_of_some hm0
        omega
    · refine ⟨sm2, ?_, _, _, _, rfl⟩
      have : j ≠ j0 := fun e => h (by
        subst e
        rw [hs] at hj0
        cases hj0
        rfl)
      omega
  · rintro σ H' ⟨sm, hj, x4, x5, x6, rfl⟩
    have h1 := lt_of_some hj0
    have h2 := hsg.len
    omega
theorem ok_edged (X : Tx K w mg T) : FnOk P w K mg base CX0 8 T.qedged T.d_qedged ["_law_grammar_here", "_law_cell"] spEdged := by
  have G_qplaces := (ok_places (P := P) (w := w) (base := base) X).mono (show 1 <= 7 by decide)
  have G_qkindat := (ok_kindat (P := P) (w := w) (base := base) X).mono (show 1 <= 7 by decide)
  have G_qwithrule := (ok_withrule (P := P) (w := w) (base := base) X).mono (show 2 <= 7 by decide)
  have G_qwide := ok_wide (P := P) (w := w) (base := base) X
  have G_qdeep := (ok_deep (P := P) (w := w) (base := base) X).mono (show 1 <= 7 by decide)
  refine X.F_qedged.okQ sc_qedged (fun vs H Q E h => ?_) (fun cdv A outer s H vs Q E hr h => ?_)
  · obtain ⟨_, _, _, rfl, _⟩ := h
    rfl
  obtain ⟨g, v, c, rfl, hg, gg, hne, q⟩ := h
  have hg0 := hg
  obtain ⟨gp, ga, gb, gus, gws, rfl, hgp, hga, hsg, hgb, hfm⟩ := hg
  have l8 : ∀ f ∈ g.fm, f.ru.length <= 8 := fun f hf => by
    obtain ⟨ss, fv⟩ := gg.fm f hf
    exact fm_ru gg fv
  refine ⟨_, (qss_cons (qs_set (i := 2) sc_qedged.nd rfl (Or.inl rfl) (qe_call G_qplaces hr rfl X.m_qplaces X.F_qplaces.kp X.b_qplaces .nil pass0 (qaN (qv 0) qa_nil))) (qss_cons (qs_set (i := 3) sc_qedged.nd rfl (Or.inl rfl) (qe_ix ix_list (qv 2) (qe_op op_mod (qe_op op_fdiv (qv 1) qe_int) (qe_callB call_len_seq rfl X.z_len PySem.boot_len (qaN (qv 2) qa_nil))) (fun _ _ => rfl))) (qss_cons (qs_set (i := 4) sc_qedged.nd rfl (Or.inl rfl) (qe_ix ix_tup (qe_ix ix_tup (qv 0) qe_int (fun _ _ => rfl)) (qe_ix ix_tup (qv 3) qe_int (fun _ _ => rfl)) (fun _ _ => rfl))) (qss_cons (qs_asg (qe_ix ix_tup (qe_ix ix_tup (qv 4) qe_int (fun _ _ => rfl)) (qe_ix ix_tup (qv 3) qe_int (fun _ _ => rfl)) (fun _ _ => rfl)) (qg_tup rfl (qgs_cons (qg_name (i := 5) sc_qedged.nd rfl (Or.inl rfl)) (qgs_cons (qg_name (i := 6) sc_qedged.nd rfl (Or.inl rfl)) (qgs_cons (qg_name (i := 7) sc_qedged.nd rfl (Or.inl rfl)) qgs_nil))))) (qss_cons (qs_set (i := 8) sc_qedged.nd rfl (Or.inl rfl) (qe_call G_qkindat hr rfl X.m_qkindat X.F_qkindat.kp X.b_qkindat .nil pass0 (qaN (qv 0) (qaN (qv 4) (qaN (qv 5) (qaN (qv 6) qa_nil)))))) (qss_cons (qs_if (qt_cmpR op_eq (qe_op op_mod (qv 1) qe_int) qe_int (nomark _)) (qss_one (qs_ret (qe_call G_qwithrule hr rfl X.m_qwithrule X.F_qwithrule.kp X.b_qwithrule .nil pass0 (qaN (qv 0) (qaN (qv 3) (qaT (qe_tup (qaN (qv 5) (qaN (qv 6) (qaK (qe_call G_qwide hr rfl X.m_qwide X.F_qwide.kp X.b_qwide .nil pass0 (qaN (qv 8) (qaC qe_int qa_nil))) qa_nil)))) qa_nil)))))) qss_nil) (qss_cons (qs_if (qt_cmpR op_eq (qe_op op_mod (qv 1) qe_int) qe_int (nomark _)) (qss_one (qs_ret (qe_call G_qwithrule hr rfl X.m_qwithrule X.F_qwithrule.kp X.b_qwithrule .nil pass0 (qaN (qv 0) (qaN (qv 3) (qaT (qe_tup (qaN (qv 5) (qaN (qv 6) (qaK (qe_call G_qdeep hr rfl X.m_qdeep X.F_qdeep.kp X.b_qdeep .nil pass0 (qaN (qv 8) (qaC qe_int qa_nil))) qa_nil)))) qa_nil)))))) qss_nil) (qss_one (qs_ret (qv 0)))))))))), ?_⟩
  refine ⟨_, rfl, g, _, rfl, hg0, gg.l10, l8, hne, fun D us es H1 s1 hD hes oes nes les => ?_⟩
  have lu := hes.len
  have hpos : (0 : Int) < ((us.length : Nat) : Int) := by
    have : es.length ≠ 0 := fun z => nes (List.length_eq_zero_iff.mp z)
    omega
  have i0 := Int.emod_nonneg (c / 21) (show ((us.length : Nat) : Int) ≠ 0 by omega)
  have i1 := Int.emod_lt_of_pos (c / 21) hpos
  obtain ⟨ix, hix⟩ := Int.eq_ofNat_of_zero_le i0
  obtain ⟨vp, hvp⟩ := some_of_lt (xs := us) (i := ix) (by omega)
  obtain ⟨⟨n, m⟩, hnm, hpl⟩ := hes.get hvp
  obtain ⟨f, hf, hm⟩ := oes _ (List.mem_of_getElem? hnm)
  have hf : g.fm[n]? = some f := hf
  have hm : m < f.ru.length := hm
  have hpl0 := hpl
  obtain ⟨pp, rfl, hpp⟩ := hpl
  have hpp : H1 pp = some (.tup [.int (n : Int), .int (m : Int)]) := hpp
  obtain ⟨r, hr'⟩ := some_of_lt (xs := f.ru) (i := m) hm
  obtain ⟨vf, hvf, hfi⟩ := L2R.at hfm hf
  have hfi0 := hfi
  obtain ⟨fp, fa, fb, fus, rfl, hfp, hfa, hfb, hru⟩ := hfi
  obtain ⟨vr, hvr, hri⟩ := L2R.at hru hr'
  obtain ⟨rp, tv, rfl, hrp, htv⟩ := hri
  obtain ⟨ss, fv⟩ := gg.fm f (List.mem_of_getElem? hf)
  obtain ⟨kd, hk3, hev, tg⟩ := fv.fm.ok r (List.mem_of_getElem? hr')
  refine ⟨_, rfl, _, rfl, _, _, rfl, rfl, ⟨by decide, by decide⟩, _, rfl, D, _, rfl, .inl (SqL.of hD), _, _, rfl, rfl, hpos, D, _, _, .ref pp, rfl, rfl, SqL.of hD, (by rw [hix]; exact atI_nat hvp), ?_⟩
  refine ⟨_, rfl, gp, _, 1, .ref gb, rfl, rfl, SqT.of (s1 _ _ hgp), rfl, _, rfl, pp, _, 0, .int (n : Int), rfl, rfl, SqT.of hpp, rfl, gb, _, _, .ref fp, rfl, rfl, SqT.of (s1 _ _ hgb), atI_nat hvf, ?_⟩
  refine ⟨_, rfl, fp, _, 3, .ref fb, rfl, rfl, SqT.of (s1 _ _ hfp), rfl, _, rfl, pp, _, 1, .int (m : Int), rfl, rfl, SqT.of hpp, rfl, fb, _, _, .ref rp, rfl, rfl, SqT.of (s1 _ _ hfb), atI_nat hvr, rp, _, rfl, SqT.of (s1 _ _ hrp), rfl, _, _, rfl, _, _, rfl, _, _, rfl, rfl, ?_⟩
  refine ⟨_, rfl, _, rfl, _, rfl, _, rfl, g, f, ss, _, _, r.k, r.nm, kd, rfl, GrIs.same (sameT s1) hg0, FmIs.same (sameT s1) hfi0, gg, fv, hev, fun H2 s2 => ?_⟩
  have s12 := s1.trans s2
  refine ⟨_, rfl, _, _, rfl, rfl, (by show (0 : Int) < 3; decide), rfl, _, rfl, iteDd (fun _ => ?_) (fun _ => ?_)⟩
  · refine ⟨_, rfl, _, rfl, _, rfl, _, rfl, _, rfl, EV ss, kd, rfl, hk3, fun t x H3 s3 ht tgt => ⟨(by show 3 <= sizeLine; decide), fun p4 hp4 => ?_⟩⟩
    have s4 := same_new hp4 (.tup [.int r.k, .str r.nm, x])
    have sA := s12.trans (s3.trans s4)
    refine ⟨g, f, ⟨r.k, r.nm, t⟩, _, _, _, (n, m), rfl, GrIs.same (sameT sA) hg0, PlIs.same (sameT (s2.trans (s3.trans s4))) hpl0, ⟨p4, x, rfl, upd_same, TmIs.same (sameT s4) t ht⟩, hf, gg.l10, l8 f (List.mem_of_getElem? hf), fun v' H5 s5 hv' => ?_⟩
    exact q v' _ H5 (sA.trans s5) hv' (grv_put gg hf fv hr' hk3 hev tgt)
  refine ⟨_, rfl, _, _, rfl, rfl, (by show (0 : Int) < 3; decide), rfl, _, rfl, iteDd (fun _ => ?_) (fun _ => ?_)⟩
  · refine ⟨_, rfl, _, rfl, _, rfl, _, rfl, _, rfl, EV ss, kd, rfl, hk3, fun t x H3 s3 ht tgt => ⟨(by show 3 <= sizeLine; decide), fun p4 hp4 => ?_⟩⟩
    have s4 := same_new hp4 (.tup [.int r.k, .str r.nm, x])
    have sA := s12.trans (s3.trans s4)
    refine ⟨g, f, ⟨r.k, r.nm, t⟩, _, _, _, (n, m), rfl, GrIs.same (sameT sA) hg0, PlIs.same (sameT (s2.trans (s3.trans s4))) hpl0, ⟨p4, x, rfl, upd_same, TmIs.same (sameT s4) t ht⟩, hf, gg.l10, l8 f (List.mem_of_getElem? hf), fun v' H5 s5 hv' => ?_⟩
    exact q v' _ H5 (sA.trans s5) hv' (grv_put gg hf fv hr' hk3 hev tgt)
  exact ⟨_, rfl, q _ g H2 s12 (GrIs.same (sameT s12) hg0) gg⟩
theorem ok_turned (X : Tx K w mg T) : FnOk P w K mg base CX0 1 T.qturned T.d_qturned ["_law_grammar_here"] spTurned := by
  refine X.F_qturned.okQ sc_qturned (fun vs H Q E h => ?_) (fun cdv A outer s H vs Q E hr h => ?_)
  · obtain ⟨_, _, rfl, _⟩ := h
    rfl
  obtain ⟨g, v, rfl, hg, l10, ls10, q⟩ := h
  obtain ⟨gp, ga, gb, gus, gws, rfl, hgp, hga, hsg, hgb, hfm⟩ := hg
  have lf := hfm.len
  have ls := hsg.len
  refine ⟨_, (qss_cons (qs_setC (ys := []) (js := []) rfl rfl (qi_revT rfl rfl X.z_reversed (qe_ix ix_tup (qv 0) qe_int (fun _ _ => rfl))) (fun _ _ _ _ _ => qif_nil) (fun _ _ _ _ _ => (qe_tup (qaS (qe_ix (ix_tupC (K := K) rfl) (qv 0) qe_int (fun _ _ => rfl)) (qaS (qe_ix (ix_tupC (K := K) rfl) (qv 0) qe_int (fun _ _ => rfl)) (qaS (qe_ix (ix_tupC (K := K) rfl) (qv 0) qe_int (fun _ _ => rfl)) (qaK (qe_tupRevC (K := K) rfl rfl rfl X.z_tuple rfl X.z_reversed (qe_ix (ix_tupC (K := K) rfl) (qv 0) qe_int (fun _ _ => rfl))) qa_nil)))))) (qg_name (i := 1) sc_qturned.nd rfl (Or.inl rfl)) rfl) (qss_one (qs_ret (qe_tup (qaK (qe_tupRev rfl rfl X.z_tuple rfl X.z_reversed (qe_ix ix_tup (qv 0) qe_int (fun _ _ => rfl))) (qaK (qe_callTy call_tuple_of rfl X.z_tuple PyProof.Rows.boot_tuple (qaN (qv 1) qa_nil)) qa_nil)))))), ?_⟩
  refine ⟨_, rfl, gp, _, 1, .ref gb, rfl, rfl, SqT.of hgp, rfl, gb, gws, rfl, SqT.of hgb, fun D hD => ?_⟩
  refine comp_revTR (K := K) (xs := gws) (as := (g.fm.map turnF).reverse) (R := FmIs) (OffD.ofT fun _ _ _ _ e r => FmIs.same e r) (fitsL (by omega)) (by rw [List.length_reverse, List.length_map]; omega) (SqT.of hgb) hD (fun i x b H1 hx hb sm Q' q' => ?_) (fun ys H1 s1 h1 hys => ?_)
  · obtain ⟨f, hf, hfi⟩ := (l2r_rev hfm).get hx
    have eb : b = turnF f := by
      rw [<- List.map_reverse, List.getElem?_map, hf] at hb
      exact (Option.some.inj hb).symm
    subst eb
    obtain ⟨fp, fa, fb, fus, rfl, hfp, hfa, hfb, hru⟩ := hfi
    refine ⟨_, rfl, fp, _, 0, .str f.nm, rfl, rfl, SqT.of (sm _ _ hfp), rfl, _, rfl, fp, _, 1, .str f.hd, rfl, rfl, SqT.of (sm _ _ hfp), rfl, _, rfl, fp, _, 2, .ref fa, rfl, rfl, SqT.of (sm _ _ hfp), rfl, _, rfl, fp, _, 3, .ref fb, rfl, rfl, SqT.of (sm _ _ hfp), rfl, fb, fus, rfl, SqT.of (sm _ _ hfb), fun p1 hp1 => ⟨(by show 4 <= sizeLine; decide), fun p2 hp2 => ?_⟩⟩
    have z1 := same_new hp1 (.tup fus.reverse)
    have z2 := same_new hp2 (.tup [.str f.nm, .str f.hd, .ref fa, .ref p1])
    have z := sm.trans (z1.trans z2)
    exact q' _ _ (z1.trans z2) ⟨p2, fa, p1, _, rfl, upd_same, z _ _ hfa, z2 _ _ upd_same, (l2r_rev hru).imp fun _ _ h => RuIs.same (sameT z) h⟩
  refine ⟨_, rfl, gp, _, 0, .ref ga, rfl, rfl, SqT.of (s1 _ _ hgp), rfl, ga, gus, rfl, SqT.of (s1 _ _ hga), fun p1 hp1 => ?_⟩
  have z1 := same_new hp1 (.tup gus.reverse)
  refine ⟨_, rfl, D, ys, rfl, .inl ⟨SqL.of (z1 _ _ h1), fun p2 hp2 => ⟨(by show 2 <= sizeLine; decide), fun p3 hp3 => ?_⟩⟩⟩
  have z2 := same_new hp2 (.tup ys)
  have z3 := same_new hp3 (.tup [.ref p1, .ref p2])
  have zA := z1.trans (z2.trans z3)
  refine q _ _ (s1.trans zA) ⟨p3, p1, p2, _, ys, rfl, upd_same, (z2.trans z3) _ _ upd_same, (l2r_rev hsg).imp fun _ _ h => SgIs.same (sameT (s1.trans zA)) h, z3 _ _ upd_same, hys.imp fun _ _ h => FmIs.same (sameT zA) h⟩
end
end K12
namespace K12
open PySem L2
open TM 
def spLaw (K : PySem.W.Frag) : Sp := fun vs H Q _ => ∃ (a : Addr) (ns : List Int), vs = [.ref a] /\ SqL K H a (ns.map V.int) /\ ns.length <= 63 /\ ∀ H', Q (.bl true) H'
theorem al_all {H : Hp} {n : Nat} {a : Addr} {xs : List V} (ha : H a = some (.tup xs)) (hl : xs.length <= 1000) (h : ∀ x ∈ xs, Al H n x x) : Al H (n + 1) (.ref a) (.ref a) :=
  .tup ha ha rfl hl fun i x y hx hy => by
    rw [hx] at hy
    cases hy
    exact h x (List.mem_of_getElem? hx)
theorem l2r_all {α : Type} {R : α -> V -> Prop} {as : List α} {vs : List V} (h : L2R R as vs) : ∀ x ∈ vs, ∃ a ∈ as, R a x := fun x hx => by
  obtain ⟨i, hi⟩ := List.getElem?_of_mem hx
  obtain ⟨a, h1, h2⟩ := h.get hi
  exact ⟨a, List.mem_of_getElem? h1, h2⟩
theorem al_pr {H : Hp} {p : Str × Str} {v : V} (h : PrIs H p v) : Al H 1 v v := by
  obtain ⟨q, rfl, e⟩ := h
  exact al_two e e (.str _) (.str _)
theorem al_sg {H : Hp} {s : Sg} {v : V} (sg : SgG s) (h : SgIs H s v) : Al H 3 v v := by
  obtain ⟨p, a, b, us, ws, rfl, hp, ha, hu, hb, hw⟩ := h
  have l1 := hu.len
  have l2 := hw.len
  have ld := sg.ld
  have lu := sg.lu
  refine al_three hp hp (.str _) (al_all ha (by omega) fun x hx => ?_) (al_all hb (by omega) fun x hx => ?_)
  · obtain ⟨q, _, hq⟩ := l2r_all hu x hx
    exact al_pr hq
  · obtain ⟨q, _, hq⟩ := l2r_all hw x hx
    exact al_pr hq
theorem al_fm {H : Hp} {f : Fm} {v : V} (hb : f.br.length <= 100) (hr : f.ru.length <= 100) (hd : ∀ r ∈ f.ru, depth r.tm <= 6) (h : FmIs H f v) : Al H 15 v v := by
  obtain ⟨p, a, b, us, rfl, hp, ha, hb', hu⟩ := h
  have l1 := hu.len
  refine al_all hp (by show 4 <= 1000; decide) fun x hx => ?_
  simp only [List.mem_cons, List.mem_nil_iff, or_false] at hx
  rcases hx with rfl | rfl | rfl | rfl
  · exact .str _
  · exact .str _
  · refine Al.mono (al_all (n := 0) ha (by rw [List.length_map]; omega) fun x hx => ?_) (by decide)
    obtain ⟨z, _, rfl⟩ := List.mem_map.mp hx
    exact .str _
  · refine al_all (n := 13) hb' (by omega) fun x hx => ?_
    obtain ⟨r, hr', q, u, rfl, hq, hu'⟩ := l2r_all hu x hx
    have := hd r hr'
    exact al_three hq hq (.int _) (.str _) ((al_T r.tm hu' hu').mono (by omega))
theorem al_gr {H : Hp} {g : Gr} {v : V} (gg : GrV g) (h : GrIs H g v) : Al H 17 v v := by
  obtain ⟨p, a, b, us, ws, rfl, hp, ha, hu, hb, hw⟩ := h
  have l1 := hu.len
  have l2 := hw.len
  have l6 := gg.sg.l6
  have l10 := gg.l10
  refine al_two hp hp (Al.mono (al_all (n := 3) ha (by omega) fun x hx => ?_) (by decide)) (al_all (n := 15) hb (by omega) fun x hx => ?_)
  · obtain ⟨s, hs, hq⟩ := l2r_all hu x hx
    exact al_sg (gg.sg.g s hs) hq
  · obtain ⟨f, hf, hq⟩ := l2r_all hw x hx
    obtain ⟨ss, fv⟩ := gg.fm f hf
    have lb := fm_br fv
    have l4 := fv.l4
    have lr := fm_ru gg fv
    exact al_fm (by omega) (by omega) (fun r hr => let ⟨_, _, _, tg⟩ := fv.fm.ok r hr; tg.dep) hq
theorem grv_of {g : Gr} (gg : GrG g) : GrV g := ⟨⟨gg.sg.g, gg.sg.nd, gg.sg.l1, gg.sg.l6⟩, fun f hf => let ⟨ss, h⟩ := gg.fm f hf; ⟨ss, h.mem, h.fm, h.l1, h.l4⟩, gg.nd, gg.l10⟩
section
variable {P : Program} {w : World} {K : PySem.W.Frag} {mg : Str -> Option Value} {base : Heap} {T : Adr}
theorem ok_law (X : Tx K w mg T) : FnOk P w K mg base CX0 120 T.law T.d_law ["_law_script"] (spLaw K) := by
  have G_qdeck := (ok_deck (P := P) (w := w) (base := base) X).mono (show 1 <= 119 by decide)
  have G_qgrammar := (ok_gram (P := P) (w := w) (base := base) X).mono (show 4 <= 119 by decide)
  have G_qedged := (ok_edged (P := P) (w := w) (base := base) X).mono (show 8 <= 119 by decide)
  have G_qturned := (ok_turned (P := P) (w := w) (base := base) X).mono (show 1 <= 119 by decide)
  have G_qletby := (ok_letby (P := P) (w := w) (base := base) X).mono (show 13 <= 119 by decide)
  have G_qsame := (ok_same (P := P) (w := w) (base := base) X 17).mono (show 19 <= 119 by decide)
  refine X.F_law.okQ sc_law (fun vs H Q E h => ?_) (fun cdv A outer s H vs Q E hr h => ?_)
  · obtain ⟨_, _, rfl, _⟩ := h
    rfl
  obtain ⟨a, ns, rfl, hS, h63, q⟩ := h
  refine ⟨_, (qss_cons (qs_set (i := 1) sc_law.nd rfl (Or.inl rfl) (qe_call G_qdeck hr rfl X.m_qdeck X.F_qdeck.kp X.b_qdeck .nil pass0 (qaN (qv 0) (qaC qe_int qa_nil)))) (qss_cons (qs_set (i := 2) sc_law.nd rfl (Or.inl rfl) (qe_ix ix_list (qv 1) qe_int (fun _ _ => rfl))) (qss_cons (qs_set (i := 3) sc_law.nd rfl (Or.inl rfl) (qe_call G_qedged hr rfl X.m_qedged X.F_qedged.kp X.b_qedged .nil pass0 (qaK (qe_call G_qgrammar hr rfl X.m_qgrammar X.F_qgrammar.kp X.b_qgrammar .nil pass0 (qaN (qv 1) qa_nil)) (qaN (qv 2) qa_nil)))) (qss_cons (qs_if (qt_cmpR op_eq (qe_op op_mod (qe_op op_fdiv (qv 2) qe_int) qe_int) qe_int (nomark _)) (qss_one (qs_set (i := 3) sc_law.nd rfl (Or.inl rfl) (qe_tup (qaS (qe_ix ix_tup (qv 3) qe_int (fun _ _ => rfl)) (qaT (qe_tup qa_nil) qa_nil))))) qss_nil) (qss_cons (qs_set (i := 4) sc_law.nd rfl (Or.inl rfl) (qe_call G_qturned hr rfl X.m_qturned X.F_qturned.kp X.b_qturned .nil pass0 (qaN (qv 3) qa_nil))) (qss_cons (qs_if (qw_pt (qw_or (qt_not (qt_val (qe_call G_qsame hr rfl X.m_qsame X.F_qsame.kp X.b_qsame .nil pass0 (qaK (qe_call G_qletby hr rfl X.m_qletby X.F_qletby.kp X.b_qletby .nil pass0 (qaN (qv 3) qa_nil)) (qaN (qv 3) qa_nil))))) (qw_or1 (qt_not (qt_val (qe_call G_qsame hr rfl X.m_qsame X.F_qsame.kp X.b_qsame .nil pass0 (qaK (qe_call G_qletby hr rfl X.m_qletby X.F_qletby.kp X.b_qletby .nil pass0 (qaN (qv 4) qa_nil)) (qaN (qv 4) qa_nil)))))))) qss_never qss_nil) (qss_one (qs_ret (qe_call G_qsame hr rfl X.m_qsame X.F_qsame.kp X.b_qsame .nil pass0 (qaK (qe_call G_qletby hr rfl X.m_qletby X.F_qletby.kp X.b_qletby .nil pass0 (qaN (qv 3) qa_nil)) (qaN (qv 3) qa_nil))))))))))), ?_⟩
  refine ⟨_, rfl, a, ns, rfl, hS, h63, fun D cs H1 s1 D0 hD lcs hcs => ?_⟩
  obtain ⟨c, hc⟩ : ∃ c, cs[5]? = some c := ⟨_, List.getElem?_eq_getElem (by omega)⟩
  refine ⟨_, rfl, D, _, 5, .int c, rfl, rfl, SqL.of hD, atI_nat (j := 5) (by rw [List.getElem?_map, hc]; rfl), ?_⟩
  refine ⟨_, rfl, D, cs, rfl, hD, lcs, fun vg g H2 kp hg gg => ?_⟩
  refine ⟨_, rfl, g, vg, c, rfl, hg, grv_of gg, gg.r0, fun v1 g1 H3 s3 hg1 gv1 => ?_⟩
  unfold gName tNext
  dsimp only
  refine seq_join (fun σ' H4 => ∃ (g2 : Gr) (v2 : V), σ' = [some (.ref a), some (.ref D), some (.int c), some v2, none] /\ GrIs H4 g2 v2 /\ GrV g2) ?_ ?_
  · rintro σ' H4 ⟨g2, v2, rfl, hg2, gv2⟩
    refine ⟨_, rfl, g2, v2, rfl, hg2, gv2.l10, by have := gv2.sg.l6; omega, fun v3 H5 s5 hg3 => ?_⟩
    have gv3 := grv_turn gv2
    have hg2' := GrIs.same (sameT s5) hg2
    refine ⟨_, rfl, g2, v2, rfl, hg2', gv2, fun H6 s6 => ⟨_, rfl, v2, v2, rfl, al_gr gv2 (GrIs.same (sameT s6) hg2'), fun H7 s7 => ⟨_, rfl, iteF ?_⟩⟩⟩
    have s67 := s6.trans s7
    refine ⟨_, rfl, turnG g2, v3, rfl, GrIs.same (sameT s67) hg3, gv3, fun H8 s8 => ⟨_, rfl, v3, v3, rfl, al_gr gv3 (GrIs.same (sameT (s67.trans s8)) hg3), fun H9 s9 => ⟨_, rfl, iteF ?_⟩⟩⟩
    have s69 := s67.trans (s8.trans s9)
    refine ⟨_, rfl, g2, v2, rfl, GrIs.same (sameT s69) hg2', gv2, fun HA sA => ⟨_, rfl, v2, v2, rfl, al_gr gv2 (GrIs.same (sameT (s69.trans sA)) hg2'), fun HB sB => ?_⟩⟩
    exact q HB
  · intro F hF
    refine ⟨_, rfl, _, _, rfl, rfl, ⟨by decide, by decide⟩, _, _, rfl, rfl, (by show (0 : Int) < 7; decide), rfl, _, rfl, iteDd (fun _ => ?_) (fun _ => ?_)⟩
    · obtain ⟨gp, ga, gb, gus, gws, rfl, hgp, hga, hsg, hgb, hfm⟩ := hg1
      refine ⟨_, rfl, gp, _, 0, .ref ga, rfl, rfl, SqT.of hgp, rfl, (by show 0 <= sizeLine; decide), fun p1 hp1 => ⟨(by show 2 <= sizeLine; decide), fun p2 hp2 => ?_⟩⟩
      have z1 := same_new hp1 (.tup [])
      have z2 := same_new hp2 (.tup [.ref ga, .ref p1])
      have z := z1.trans z2
      exact hF _ _ ⟨⟨g1.sg, []⟩, _, rfl, ⟨p2, ga, p1, gus, [], rfl, upd_same, z _ _ hga, hsg.imp fun _ _ h => SgIs.same (sameT z) h, z2 _ _ upd_same, .nil⟩, ⟨gv1.sg, (fun f hf => nomatch hf), List.nodup_nil, by show 0 <= 10; decide⟩⟩
    · exact hF _ _ ⟨g1, v1, rfl, hg1, gv1⟩
end
end K12
namespace K12
open PySem L2
end K12
open PySem PySem.W PyProof.Rows
set_option maxRecDepth 100000 in
set_option maxHeartbeats 0 in
theorem PySem.Challenge.cw_leafsay_k12_let_by_holds : PySem.Challenge.rw_leafsay_k12_let_by.Holds := by
  w_on; o_law; k_head; (case hw => w_witness2)
  k_fill
  refine L2.walk_ofK (l := PySem.Challenge.rw_leafsay_k12_let_by) (n := 63) (k := 120) (x := "_law_script") (CX := L2.CX0) (sp := K12.spLaw) rfl (by decide) rfl ⟨rfl, by decide, by decide, rfl⟩ (fun w h Y => PySem.W.kIn_of Y) ?F (fun K H a ns hl _ hS => ⟨a, ns, rfl, hS, hl, fun _ => rfl⟩) (fun _ _ _ _ z => z)
  case F =>
    intro w mg fa h KX G hmg
    have T : ∃ T : K12.Adr, K12.Tx (L2.KOf KX) w mg T := by
      dsimp only [L2.KOf]
      refine' K12.tx_mk KX G ?a0 ?l0 ?c0 ?k0 ?a1 ?l1 ?c1 ?k1 ?a2 ?l2 ?c2 ?k2 ?a3 ?l3 ?c3 ?k3 ?a4 ?l4 ?c4 ?k4 ?a5 ?l5 ?c5 ?k5 ?a6 ?l6 ?c6 ?k6 ?a7 ?l7 ?c7 ?k7 ?a8 ?l8 ?c8 ?k8 ?a9 ?l9 ?c9 ?k9 ?a10 ?l10 ?c10 ?k10 ?a11 ?l11 ?c11 ?k11 ?a12 ?l12 ?c12 ?k12 ?a13 ?l13 ?c13 ?k13 ?a14 ?l14 ?c14 ?k14 ?a15 ?l15 ?c15 ?k15 ?a16 ?l16 ?c16 ?k16 ?a17 ?l17 ?c17 ?k17 ?a18 ?l18 ?c18 ?k18 ?a19 ?l19 ?c19 ?k19 ?a20 ?l20 ?c20 ?k20 ?a21 ?l21 ?c21 ?k21 ?a22 ?l22 ?c22 ?k22 ?a23 ?l23 ?c23 ?k23 ?a24 ?l24 ?c24 ?k24 ?a25 ?l25 ?c25 ?k25 ?a26 ?l26 ?c26 ?k26 ?a27 ?l27 ?c27 ?k27 ?a28 ?l28 ?c28 ?k28 ?a29 ?l29 ?c29 ?k29 ?a30 ?l30 ?c30 ?k30 ?a31 ?l31 ?c31 ?k31 ?a32 ?l32 ?c32 ?k32 ?a33 ?l33 ?c33 ?k33 ?a34 ?l34 ?c34 ?k34 ?a35 ?l35 ?c35 ?k35 ?a36 ?l36 ?c36 ?k36 ?a37 ?l37 ?c37 ?k37 ?a38 ?l38 ?c38 ?k38 ?a39 ?l39 ?c39 ?k39 ?a40 ?l40 ?c40 ?k40 ?a41 ?l41 ?c41 ?k41 ?z_bool ?z_enumerate ?z_int ?z_isinstance ?z_len ?z_list ?z_max ?z_min ?z_range ?z_reversed ?z_set ?z_sorted ?z_str ?z_sum ?z_tuple ?z_zip ?c_MOST_PARTS ?c_MOST_DEPTH ?c_MOST_SIGNS ?c_MOST_FORMS ?c_MOST_DOWNS ?c_MOST_UPS ?c_MOST_BRANCHES ?c_NEEDS ?dl_NEEDS ?dk_NEEDS ?dv_NEEDS ?y_NEEDS ?q_NEEDS_0 ?q_NEEDS_1 ?q_NEEDS_2 ?q_NEEDS_3 ?q_NEEDS_4 ?q_NEEDS_5 ?q_NEEDS_6 ?q_NEEDS_7 ?q_NEEDS_8 ?q_NEEDS_9 ?q_NEEDS_10 ?c_MAKES ?dl_MAKES ?dk_MAKES ?dv_MAKES ?y_MAKES
      (case a0 => k_is)
      (case l0 => k_is)
      (case c0 => k_is)
      (case k0 => k_is)
      (case a1 => k_is)
      (case l1 => k_is)
      (case c1 => k_is)
      (case k1 => k_is)
      (case a2 => k_is)
      (case l2 => k_is)
      (case c2 => k_is)
      (case k2 => k_is)
      (case a3 => k_is)
      (case l3 => k_is)
      (case c3 => k_is)
      (case k3 => k_is)
      (case a4 => k_is)
      (case l4 => k_is)
      (case c4 => k_is)
      (case k4 => k_is)
      (case a5 => k_is)
      (case l5 => k_is)
      (case c5 => k_is)
      (case k5 => k_is)
      (case a6 => k_is)
      (case l6 => k_is)
      (case c6 => k_is)
      (case k6 => k_is)
      (case a7 => k_is)
      (case l7 => k_is)
      (case c7 => k_is)
      (case k7 => k_is)
      (case a8 => k_is)
      (case l8 => k_is)
      (case c8 => k_is)
      (case k8 => k_is)
      (case a9 => k_is)
      (case l9 => k_is)
      (case c9 => k_is)
      (case k9 => k_is)
      (case a10 => k_is)
      (case l10 => k_is)
      (case c10 => k_is)
      (case k10 => k_is)
      (case a11 => k_is)
      (case l11 => k_is)
      (case c11 => k_is)
      (case k11 => k_is)
      (case a12 => k_is)
      (case l12 => k_is)
      (case c12 => k_is)
      (case k12 => k_is)
      (case a13 => k_is)
      (case l13 => k_is)
      (case c13 => k_is)
      (case k13 => k_is)
      (case a14 => k_is)
      (case l14 => k_is)
      (case c14 => k_is)
      (case k14 => k_is)
      (case a15 => k_is)
      (case l15 => k_is)
      (case c15 => k_is)
      (case k15 => k_is)
      (case a16 => k_is)
      (case l16 => k_is)
      (case c16 => k_is)
      (case k16 => k_is)
      (case a17 => k_is)
      (case l17 => k_is)
      (case c17 => k_is)
      (case k17 => k_is)
      (case a18 => k_is)
      (case l18 => k_is)
      (case c18 => k_is)
      (case k18 => k_is)
      (case a19 => k_is)
      (case l19 => k_is)
      (case c19 => k_is)
      (case k19 => k_is)
      (case a20 => k_is)
      (case l20 => k_is)
      (case c20 => k_is)
      (case k20 => k_is)
      (case a21 => k_is)
      (case l21 => k_is)
      (case c21 => k_is)
      (case k21 => k_is)
      (case a22 => k_is)
      (case l22 => k_is)
      (case c22 => k_is)
      (case k22 => k_is)
      (case a23 => k_is)
      (case l23 => k_is)
      (case c23 => k_is)
      (case k23 => k_is)
      (case a24 => k_is)
      (case l24 => k_is)
      (case c24 => k_is)
      (case k24 => k_is)
      (case a25 => k_is)
      (case l25 => k_is)
      (case c25 => k_is)
      (case k25 => k_is)
      (case a26 => k_is)
      (case l26 => k_is)
      (case c26 => k_is)
      (case k26 => k_is)
      (case a27 => k_is)
      (case l27 => k_is)
      (case c27 => k_is)
      (case k27 => k_is)
      (case a28 => k_is)
      (case l28 => k_is)
      (case c28 => k_is)
      (case k28 => k_is)
      (case a29 => k_is)
      (case l29 => k_is)
      (case c29 => k_is)
      (case k29 => k_is)
      (case a30 => k_is)
      (case l30 => k_is)
      (case c30 => k_is)
      (case k30 => k_is)
      (case a31 => k_is)
      (case l31 => k_is)
      (case c31 => k_is)
      (case k31 => k_is)
      (case a32 => k_is)
      (case l32 => k_is)
      (case c32 => k_is)
      (case k32 => k_is)
      (case a33 => k_is)
      (case l33 => k_is)
      (case c33 => k_is)
      (case k33 => k_is)
      (case a34 => k_is)
      (case l34 => k_is)
      (case c34 => k_is)
      (case k34 => k_is)
      (case a35 => k_is)
      (case l35 => k_is)
      (case c35 => k_is)
      (case k35 => k_is)
      (case a36 => k_is)
      (case l36 => k_is)
      (case c36 => k_is)
      (case k36 => k_is)
      (case a37 => k_is)
      (case l37 => k_is)
      (case c37 => k_is)
      (case k37 => k_is)
      (case a38 => k_is)
      (case l38 => k_is)
      (case c38 => k_is)
      (case k38 => k_is)
      (case a39 => k_is)
      (case l39 => k_is)
      (case c39 => k_is)
      (case k39 => k_is)
      (case a40 => k_is)
      (case l40 => k_is)
      (case c40 => k_is)
      (case k40 => k_is)
      (case a41 => k_is)
      (case l41 => k_is)
      (case c41 => k_is)
      (case k41 => k_is)
      (case z_bool => k_is)
      (case z_enumerate => k_is)
      (case z_int => k_is)
      (case z_isinstance => k_is)
      (case z_len => k_is)
      (case z_list => k_is)
      (case z_max => k_is)
      (case z_min => k_is)
      (case z_range => k_is)
      (case z_reversed => k_is)
      (case z_set => k_is)
      (case z_sorted => k_is)
      (case z_str => k_is)
      (case z_sum => k_is)
      (case z_tuple => k_is)
      (case z_zip => k_is)
      (case c_MOST_PARTS => k_is)
      (case c_MOST_DEPTH => k_is)
      (case c_MOST_SIGNS => k_is)
      (case c_MOST_FORMS => k_is)
      (case c_MOST_DOWNS => k_is)
      (case c_MOST_UPS => k_is)
      (case c_MOST_BRANCHES => k_is)
      (case c_NEEDS => k_is)
      (case dl_NEEDS => k_is)
      (case dk_NEEDS => k_keys)
      (case dv_NEEDS => rfl)
      (case y_NEEDS => decide)
      (case q_NEEDS_0 => k_is)
      (case q_NEEDS_1 => k_is)
      (case q_NEEDS_2 => k_is)
      (case q_NEEDS_3 => k_is)
      (case q_NEEDS_4 => k_is)
      (case q_NEEDS_5 => k_is)
      (case q_NEEDS_6 => k_is)
      (case q_NEEDS_7 => k_is)
      (case q_NEEDS_8 => k_is)
      (case q_NEEDS_9 => k_is)
      (case q_NEEDS_10 => k_is)
      (case c_MAKES => k_is)
      (case dl_MAKES => k_is)
      (case dk_MAKES => k_keys)
      (case dv_MAKES => rfl)
      (case y_MAKES => decide)
    obtain ⟨T, TX⟩ := T
    have e0 := hmg.symm.trans TX.m_law
    cases e0
    obtain ⟨oc, od, kV, doc, pm, an, cdv, ct, osl, efd, _, _⟩ := TX.F_law.ex
    refine ⟨T.d_law, fun s u => ?_, fun base _ _ => K12.ok_law TX⟩
    rw [efd]
    exact .of_eq rfl
