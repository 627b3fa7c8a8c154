import PyProof.Rows.All
import Wide.All
import OpenK.AllK
import Wide.FinOn
import Lean
import PyProof.EqAt
import PyProof.EqKinds
import PyProof.TupleCall
import PyProof.NeKinds
import PyProof.FitsReplace
import PyProof.Rows.SumAny
import PyProof.Rows.MinMaxN
import PyProof.Rows.CallKwBuiltin
import PyProof.StrBlock2
import KE.KMinKey
import OpenK.KOwn
import PyProof.ExcArgsOwn
import KE.KIsAll
import PyProof.ReprRoads
import PyProof.ReprBulk
import PyProof.StrWalks
import PyProof.ConsumeWalk
import PyProof.StrCalls2
import PyProof.EnumMake
import PyProof.Draws
import PyProof.Rows.EnumRows
import PyProof.Rows.FactsT2
import PyProof.CompUse
import KE.KRevIter
import PyProof.ListStr
import KE.KIntText
import PyProof.StrLawsIdx
import PyProof.StrLawsNeg
import PyProof.StrLawsTight
import PyProof.StrLawsChain
import PyProof.Rows.StrItems
import PyProof.Rows.StrFirst
import PyProof.Rows.StrLawsPart
import PyProof.Rows.Range3
import PyProof.Rows.StrWeight2
import PyProof.AutoListH
import PyProof.TupleOfGen
import PyProof.WalksEnum
import PyProof.FactsAll.range_2
import PyProof.ZipIter
import PySem.Challenge.RW_leafsay_k07_terms_refused
/-! Names that stand for nothing: where a name is taken, the head goes on without the twin of that name, and the compiled text stays small. -/
def PySem.W.Fast.tw14627354150705638595 : Nat := 0
def PySem.W.Fast.tw3121998678381453519 : Nat := 0
def PySem.W.Fast.tw4185168168182797523 : Nat := 0
def PySem.W.Fast.tw4276507039382429066 : Nat := 0
def PySem.W.Fast.tw6498363899551153533 : Nat := 0
def PySem.W.Fast.tw3571593313318928465 : Nat := 0
def PySem.W.Fast.tw10398054305701462256 : Nat := 0
def PySem.W.Fast.tw15045325785018086429 : Nat := 0
def PySem.W.Fast.tw5480709514810164828 : Nat := 0
def PySem.W.Fast.tw12868502158330222206 : Nat := 0
def PySem.W.Fast.tw14769454500043128591 : Nat := 0
def PySem.W.Fast.tw13755701430010945877 : Nat := 0
def PySem.W.Fast.tw5308610614344526605 : Nat := 0
def PySem.W.Fast.tw2947369130603911724 : Nat := 0
def PySem.W.Fast.tw8522465414511946789 : Nat := 0
def PySem.W.Fast.tw9936588948873138961 : Nat := 0
def PySem.W.Fast.tw965522921034296678 : PySem.Program := PySem.Challenge.pw_leafsay_k07_terms_refused
theorem PySem.W.Fast.te965522921034296678 : PySem.Challenge.pw_leafsay_k07_terms_refused = PySem.W.Fast.tw965522921034296678 := rfl
set_option Elab.async false
set_option linter.all false
set_option maxRecDepth 100000
namespace L2
open PySem PySem.Spec PyProof.Rows
abbrev Key := Sum Int Str
def keyIs : Key -> Value -> Bool
  | .inl k, v => Value.isInt k v
  | .inr x, v => Value.isStrOf x v
def keyH (w : World) : Key -> Int
  | .inl k => hashInt k
  | .inr x => hashStr w x
theorem keyIs_shape : ∀ {k : Key} {v : Value}, keyIs k v = true -> (∃ i t, k = Sum.inl i /\ v = Value.int i t) \/ (∃ x t, k = Sum.inr x /\ v = Value.str x t)
  | .inl i, v, h => by
    obtain ⟨t, e⟩ := Value.isInt_shape (k := i) (v := v) h
    exact .inl ⟨i, t, rfl, e⟩
  | .inr x, v, h => by
    obtain ⟨t, e⟩ := Value.isStrOf_shape (x := x) (v := v) h
    exact .inr ⟨x, t, rfl, e⟩
theorem key_ll (a b : Int) : decide ((Sum.inl a : Key) = Sum.inl b) = (a == b) := by
  by_cases e : a = b
  · subst e; simp
  · have h : ¬ (Sum.inl a : Key) = Sum.inl b := fun q => e (Sum.inl.inj q)
    rw [decide_eq_false h]
    exact (beq_eq_false_iff_ne.mpr e).symm
theorem key_rr (a b : Str) : decide ((Sum.inr a : Key) = Sum.inr b) = decide (a = b) := by
  by_cases e : a = b
  · subst e; simp
  · have h : ¬ (Sum.inr a : Key) = Sum.inr b := fun q => e (Sum.inr.inj q)
    rw [decide_eq_false h, decide_eq_false e]
theorem key_lr (a : Int) (b : Str) : decide ((Sum.inl a : Key) = Sum.inr b) = false := decide_eq_false (fun q => nomatch q)
theorem key_rl (a : Str) (b : Int) : decide ((Sum.inr a : Key) = Sum.inl b) = false := decide_eq_false (fun q => nomatch q)
def mixKind (prog : Program) (w : World) : PySem.KeyKind prog w Key where
  is := keyIs
  hash := keyH w
  inj := fun v a b ha hb => by
    rcases keyIs_shape ha with ⟨i, t, rfl, rfl⟩ | ⟨x, t, rfl, rfl⟩
    · rcases keyIs_shape hb with ⟨j, u, rfl, e⟩ | ⟨y, u, rfl, e⟩
      · injection e with e1 _; rw [e1]
      · exact nomatch e
    · rcases keyIs_shape hb with ⟨j, u, rfl, e⟩ | ⟨y, u, rfl, e⟩
      · exact nomatch e
      · injection e with e1 _; rw [e1]
  byValue := fun k v h => by
    rcases keyIs_shape h with ⟨i, t, rfl, rfl⟩ | ⟨x, t, rfl, rfl⟩ <;> rfl
  pyHash := fun hv h => by
    rcases keyIs_shape hv with ⟨i, t, rfl, rfl⟩ | ⟨x, t, rfl, rfl⟩
    · exact wpAny_pyHash_int h
    · exact wpAny_pyHash_str h
  eqBool := fun hu hv h => by
    rcases keyIs_shape hu with ⟨i, t, rfl, rfl⟩ | ⟨x, t, rfl, rfl⟩
    · rcases keyIs_shape hv with ⟨j, u, rfl, rfl⟩ | ⟨y, u, rfl, rfl⟩
      · rw [key_ll] at h; exact wpAny_eqBool_int h
      · rw [key_lr] at h; exact SeqAt.EqAt.int_str i t y u _ _ _ _ h
    · rcases keyIs_shape hv with ⟨j, u, rfl, rfl⟩ | ⟨y, u, rfl, rfl⟩
      · rw [key_rl] at h; exact SeqAt.EqAt.str_int x t j u _ _ _ _ h
      · rw [key_rr] at h; exact wpAny_eqBool_str h
  «strs» := fun k x t v h => by
    rcases keyIs_shape h with ⟨i, u, rfl, e⟩ | ⟨y, u, rfl, e⟩
    · exact nomatch e
    · injection e with e1 _
      subst e1
      cases v <;> rfl
end L2
namespace L2
open PySem PySem.Spec PyProof.Rows
inductive V where
  | non | bl (b : Bool) | int (i : Int) | str (x : Str) | byt (b : Array UInt8) | flt (b : UInt64) | ref (a : Addr) | ty (n : String)
  deriving DecidableEq
def RelV : V -> Value -> Prop
  | .non, u => u = Value.none
  | .bl b, u => u = Value.bool b
  | .int i, u => ∃ t, u = Value.int i t
  | .str x, u => ∃ t, u = Value.str x t
  | .byt b, u => ∃ t, u = Value.bytes b t
  | .flt b, u => ∃ t, u = Value.float b t
  | .ref a, u => u = Value.ref a
  | .ty n, u => u = Value.type n
abbrev Vals : List V -> List Value -> Prop := Paired RelV
theorem Vals.length {xs : List V} {us : List Value} (r : Vals xs us) : xs.length = us.length := Paired.length r
theorem Vals.get : ∀ {xs : List V} {us : List Value} {i : Nat} {x : V}, Vals xs us -> xs[i]? = some x -> ∃ u, us[i]? = some u /\ RelV x u
  | _, _, _, _, .nil, e => by simp at e
  | _, _, 0, _, .cons r _, e => by simp at e; subst e; exact ⟨_, rfl, r⟩
  | _, _, i + 1, x, .cons _ t, e => by
    obtain ⟨u, h1, h2⟩ := Vals.get (i := i) (x := x) t (by simpa using e)
    exact ⟨u, by simpa using h1, h2⟩
theorem Vals.set {x : V} {u : Value} (r : RelV x u) : ∀ {xs : List V} {us : List Value} (i : Nat), Vals xs us -> Vals (xs.set i x) (us.set i u)
  | _, _, _, .nil => .nil
  | _, _, 0, .cons _ t => .cons r t
  | _, _, i + 1, .cons q t => .cons q (Vals.set r i t)
theorem Vals.append : ∀ {xs ys : List V} {us ws : List Value}, Vals xs us -> Vals ys ws -> Vals (xs ++ ys) (us ++ ws)
  | _, _, _, _, .nil, s => s
  | _, _, _, _, .cons r t, s => .cons r (Vals.append t s)
theorem Vals.take : ∀ {xs : List V} {us : List Value} (n : Nat), Vals xs us -> Vals (xs.take n) (us.take n)
  | _, _, 0, _ => .nil
  | _, _, _ + 1, .nil => .nil
  | _, _, n + 1, .cons r t => .cons r (Vals.take n t)
theorem Vals.drop : ∀ {xs : List V} {us : List Value} (n : Nat), Vals xs us -> Vals (xs.drop n) (us.drop n)
  | _, _, 0, r => r
  | _, _, _ + 1, .nil => .nil
  | _, _, n + 1, .cons _ t => Vals.drop n t
def RelO : Option V -> Option Value -> Prop
  | some v, some u => RelV v u
  | none, none => True
  | _, _ => False
def KV {κ : Type} : List (κ × V) -> List (κ × Value) -> Prop := Paired fun (p : κ × V) (q : κ × Value) => p.1 = q.1 /\ RelV p.2 q.2
def kV : Key -> V
  | .inl i => .int i
  | .inr x => .str x
inductive HO where
  /-- a list -/
  | lst (xs : List V)
  /-- a tuple (never changes) -/
  | tup (xs : List V)
  /-- a dict whose keys are ints and texts; one whose keys are tuples of ints and texts (the empty one is both) -/
  | dK (kvs : List (Key × V)) | dT (kvs : List (List Key × V))
  /-- a set of ints: its members, its size -/
  | set (S : Int -> Bool) (n : Nat)
  /-- an instance of the class at C, its dict at dx, its attributes -/
  | ins (C dx : Addr) (fs : List (Str × V))
  /-- the dict of the instance at x -/
  | own (x : Addr)
  /-- the dict of an exception -/
  | xd (fs : List (Str × V))
  /-- a bound method, f of x -/
  | met (f x : Addr)
  /-- a range object lo, lo + 1, .. below hi -/
  | rng (lo hi : Int)
  /-- a thing that is known to the object (the script; a dict while a loop walks it): read, never written while it is so -/
  | frz (o : Obj) (u : HO)
  /-- a code object's table -/
  | tbl (ps : Array Value)
  /-- any other thing, by what is true of its one object (a def of one's own: SetO a S n := HO.ext fun h => ..) -/
  | ext (φ : Heap -> Prop)
abbrev Hp := Addr -> Option HO
def upd (H : Hp) (a : Addr) (o : HO) : Hp := fun b => if b = a then some o else H b
theorem upd_same {H : Hp} {a : Addr} {o : HO} : upd H a o a = some o := by unfold upd; rw [if_pos rfl]
theorem upd_ne {H : Hp} {a b : Addr} {o : HO} (h : b ≠ a) : upd H a o b = H b := by unfold upd; rw [if_neg h]
theorem ne_of {H : Hp} {a b : Addr} {o u : HO} (h : H a = some o) (h' : H b = some u) (d : o ≠ u) : a ≠ b := by
  intro e; subst e; rw [h] at h'; exact d (Option.some.inj h')
theorem ne_of_none {H : Hp} {a b : Addr} {o : HO} (h : H a = some o) (h' : H b = none) : a ≠ b := by
  intro e; subst e; rw [h] at h'; cases h'
section
variable (P : Program) (w : World)
def ObjOk (H : Hp) (h : Heap) (a : Addr) : HO -> Prop
  | .lst xs => xs.length <= sizeLine /\ ∃ (its : List Value) (n : Nat), Vals xs its /\ h.get? a = some { cls := .type "list", data := .seq its.toArray n }
  | .tup xs => xs.length <= sizeLine /\ ∃ its : List Value, Vals xs its /\ IsTup h a its.toArray
  | .dK kvs => kvs.length <= sizeLine /\ (a == sysModules) = false /\ ∃ vs, KV kvs vs /\ h.DictOf (mixKind P w) a vs
  | .dT kvs => kvs.length <= sizeLine /\ (a == sysModules) = false /\ ∃ xs : List (List Key × Addr × Value),
      Paired (fun (p : List Key × V) (q : List Key × Addr × Value) => p.1 = q.1 /\ H q.2.1 = some (.tup (p.1.map kV)) /\ RelV p.2 q.2.2) kvs xs /\
      ∃ o es ep, h.get? a = some o /\ o.ExactDict /\ o.data = .dict es ep /\ es.toList = xs.map (entryOfKey (tupleKind (mixKind P w))) /\ (xs.map (·.1)).Nodup
  | .set S n => h.SetOf (intKind P w) a S n
  | .ins C dx fs => H dx = some (.own a) /\ fs.length <= 1000 /\ dx ≠ a /\ h.get? a = some (PySem.W.instObj C dx) /\
      ∃ mA, h.Ns1 dx mA /\ (∀ f, RelO (fs.lookup f) (mA f)) /\ PySem.Within mA (fs.map (·.1))
  | .own _ => ∃ o, h.get? a = some o
  | .xd fs => ∃ mA, h.Ns1 a mA /\ ∀ f, RelO (fs.lookup f) (mA f)
  | .rng lo hi => ∃ t u v, h.get? a = some { cls := .type "range", data := .fields #[.int lo t, .int hi u, .int 1 v] }
  | .frz o u => h.get? a = some o /\ ObjOk H h a u
  | .tbl ps => h.get? a = some { cls := .none, data := .fields ps }
  | .met f x => h.get? a = some (PySem.W.methodObj (.ref f) (.ref x))
  | .ext φ => φ h /\ (∃ o, h.get? a = some o) /\ ∀ h1 h2 : Heap, φ h1 -> (∀ o, h1.get? a = some o -> h2.get? a = some o) -> φ h2
def HOk (H : Hp) (h : Heap) : Prop := ∀ a o, H a = some o -> ObjOk P w H h a o
end
section
variable {P : Program} {w : World} {H H' : Hp} {h h' : Heap} {a : Addr} {o : HO}
theorem ObjOk.lt (x : ObjOk P w H h a o) : a < h.objs.size := by
  cases o with
  | lst xs => obtain ⟨_, _, _, _, e⟩ := x; exact Heap.lt_size e
  | tup xs => obtain ⟨_, _, _, p⟩ := x; exact p.lt
  | dK kvs => obtain ⟨_, _, _, _, o, _, _, e, _⟩ := x; exact Heap.lt_size e
  | dT kvs => obtain ⟨_, _, _, _, o, _, _, e, _⟩ := x; exact Heap.lt_size e
  | set S n => obtain ⟨o, _, _, _, e, _⟩ := x; exact Heap.lt_size e
  | ins C dx fs => obtain ⟨_, _, _, e, _⟩ := x; exact Heap.lt_size e
  | own y => obtain ⟨_, e⟩ := x; exact Heap.lt_size e
  | xd fs => obtain ⟨_, ⟨_, _, _, e, _⟩, _⟩ := x; exact Heap.lt_size e
  | rng lo hi => obtain ⟨_, _, _, e⟩ := x; exact Heap.lt_size e
  | frz ob u => obtain ⟨e, _⟩ := x; exact Heap.lt_size e
  | tbl ps => exact Heap.lt_size (show h.get? a = some _ from x)
  | met f y => exact Heap.lt_size (show h.get? a = some _ from x)
  | ext φ => obtain ⟨_, ⟨_, e⟩, _⟩ := x; exact Heap.lt_size e
theorem Paired.mapP {α β : Type} {F G : α -> β -> Prop} : ∀ {l₁ : List α} {l₂ : List β}, Paired F l₁ l₂ -> (∀ a b, F a b -> G a b) -> Paired G l₁ l₂
  | _, _, .nil, _ => .nil
  | _, _, .cons r t, f => .cons (f _ _ r) (Paired.mapP t f)
theorem ObjOk.stay (x : ObjOk P w H h a o) (k : ∀ b u, (b = a \/ H b = some (.own a)) -> h.get? b = some u -> h'.get? b = some u)
    (ho : ∀ b, H b = some (.own a) -> H' b = some (.own a)) (ht : ∀ b xs, H b = some (.tup xs) -> H' b = some (.tup xs)) : ObjOk P w H' h' a o := by
  induction o with
  | lst xs => obtain ⟨z, its, n, r, e⟩ := x; exact ⟨z, its, n, r, k _ _ (.inl rfl) e⟩
  | tup xs => obtain ⟨z, its, r, ob, e, c⟩ := x; exact ⟨z, its, r, ob, k _ _ (.inl rfl) e, c⟩
  | dK kvs => obtain ⟨z, y, vs, r, ob, es, ep, e, c⟩ := x; exact ⟨z, y, vs, r, ob, es, ep, k _ _ (.inl rfl) e, c⟩
  | dT kvs =>
    obtain ⟨z, y, xs, r, ob, es, ep, e, c⟩ := x
    exact ⟨z, y, xs, Paired.mapP r fun p q z => ⟨z.1, ht _ _ z.2.1, z.2.2⟩, ob, es, ep, k _ _ (.inl rfl) e, c⟩
  | set S n => obtain ⟨ob, es, ep, t, e, c⟩ := x; exact ⟨ob, es, ep, t, k _ _ (.inl rfl) e, c⟩
  | ins C dx fs =>
    obtain ⟨d, z, ne, e, mA, ⟨od, es, ep, e2, c⟩, r⟩ := x
    exact ⟨ho _ d, z, ne, k _ _ (.inl rfl) e, mA, ⟨od, es, ep, k _ _ (.inr d) e2, c⟩, r⟩
  | own y => obtain ⟨ob, e⟩ := x; exact ⟨ob, k _ _ (.inl rfl) e⟩
  | xd fs => obtain ⟨mA, ⟨od, es, ep, e, c⟩, r⟩ := x; exact ⟨mA, ⟨od, es, ep, k _ _ (.inl rfl) e, c⟩, r⟩
  | rng lo hi => obtain ⟨t, u, v, e⟩ := x; exact ⟨t, u, v, k _ _ (.inl rfl) e⟩
  | frz ob u ih => obtain ⟨e, q⟩ := x; exact ⟨k _ _ (.inl rfl) e, ih q⟩
  | tbl ps =>
    have e : h.get? a = some { cls := .none, data := .fields ps } := x
    show h'.get? a = some { cls := .none, data := .fields ps }
    exact k a _ (.inl rfl) e
  | met f y =>
    have e : h.get? a = some (PySem.W.methodObj (.ref f) (.ref y)) := x
    show h'.get? a = some (PySem.W.methodObj (.ref f) (.ref y))
    exact k a _ (.inl rfl) e
  | ext φ => obtain ⟨p, ⟨o, e⟩, st⟩ := x; exact ⟨st _ _ p fun o q => k _ _ (.inl rfl) q, ⟨o, k _ _ (.inl rfl) e⟩, st⟩
theorem HOk.lt (x : HOk P w H h) (e : H a = some o) : a < h.objs.size := (x a o e).lt
theorem HOk.fresh (x : HOk P w H h) (e : h.objs.size <= a) : H a = none := by
  cases q : H a with
  | none => rfl
  | some u => exact absurd (Nat.lt_of_lt_of_le (x.lt q) e) (Nat.lt_irrefl _)
theorem HOk.kept (x : HOk P w H h) (k : ∀ b u, h.get? b = some u -> h'.get? b = some u) : HOk P w H h' := fun a o e =>
  (x a o e).stay (fun b u _ q => k b u q) (fun _ q => q) fun _ _ q => q
theorem HOk.laid (x : HOk P w H h) (k : ∀ b u, h.get? b = some u -> h'.get? b = some u) (hp : h.objs.size <= a) (new : ObjOk P w (upd H a o) h' a o) : HOk P w (upd H a o) h' := fun b u e => by
  have hn := x.fresh hp
  by_cases hb : b = a
  · subst hb; rw [upd_same] at e; cases e; exact new
  · rw [upd_ne hb] at e
    exact (x b u e).stay (fun c v _ q => k c v q) (fun c q => by rw [upd_ne (ne_of_none q hn)]; exact q) fun c xs q => by rw [upd_ne (ne_of_none q hn)]; exact q
end
def Rd (H : Hp) (a : Addr) (u : HO) : Prop := H a = some u \/ ∃ o, H a = some (.frz o u)
theorem Rd.ok {P : Program} {w : World} {H : Hp} {h : Heap} {a : Addr} {u : HO} (r : Rd H a u) (x : HOk P w H h) : ObjOk P w H h a u := by
  rcases r with r | ⟨o, r⟩
  · exact x a u r
  · obtain ⟨_, q⟩ := x a _ r
    exact q
def Mut : Option HO -> Prop
  | some (.lst _) => True
  | some (.dK _) => True
  | some (.dT _) => True
  | some (.set _ _) => True
  | some (.ins _ _ _) => True
  | some (.ext _) => True
  | _ => False
section
variable {P : Program} {w : World} {H : Hp} {h h' : Heap} {x e : Addr} {o' : HO}
theorem HOk.write (ok : HOk P w H h) (mu : Mut (H x)) (he : e = x \/ H e = some (.own x)) (k : ∀ b u, b ≠ e -> h.get? b = some u -> h'.get? b = some u) (heo : ∃ u, h'.get? e = some u)
    (new : ObjOk P w (upd H x o') h' x o') : HOk P w (upd H x o') h' := fun b u q => by
  have nown : ∀ c y, H c = some (.own y) -> c ≠ x := fun c y r z => by subst z; rw [r] at mu; exact mu
  have ntup : ∀ c xs, H c = some (.tup xs) -> c ≠ x := fun c xs r z => by subst z; rw [r] at mu; exact mu
  by_cases hb : b = x
  · subst hb; rw [upd_same] at q; cases q; exact new
  · rw [upd_ne hb] at q
    by_cases hbe : b = e
    · have q' : H b = some (.own x) := by
        rcases he with z | z
        · exact absurd (hbe.trans z) hb
        · rw [hbe]; exact z
      rw [q] at q'; cases q'
      obtain ⟨v, hv⟩ := heo
      exact ⟨v, by rw [hbe]; exact hv⟩
    · refine (ok b u q).stay (fun c v hc r => k c v ?_ r) (fun c r => by rw [upd_ne (nown c b r)]; exact r) fun c xs r => by rw [upd_ne (ntup c xs r)]; exact r
      rcases hc with rfl | hc
      · exact hbe
      · rintro rfl
        rcases he with z | z
        · exact nown c b hc z
        · rw [hc] at z; cases z; exact hb rfl
end
structure Un (fs ex : List Addr) (H H' : Hp) (h h' : Heap) : Prop where
  keep : ∀ b o, h.get? b = some o -> H b = none -> b ∉ fs -> b ∉ ex -> h'.get? b = some o
  slot : ∀ b o, h.get? b = some o -> H b = none -> b ∈ fs -> b ∉ ex -> ∃ sl, h'.get? b = some { o with slots := sl }
  free : ∀ b o, h.get? b = some o -> H b = none -> b ∉ ex -> H' b = none
  there : ∀ b o, h.get? b = some o -> b ∉ ex -> ∃ o', h'.get? b = some o'
  tups : ∀ b xs, H b = some (.tup xs) -> H' b = some (.tup xs)
  frzs : ∀ b o u, H b = some (.frz o u) -> H' b = some (.frz o u)
  tbls : ∀ b ps, H b = some (.tbl ps) -> ∃ more, H' b = some (.tbl (ps ++ more))
section
variable {fs fs' ex ex' : List Addr} {H H1 H2 : Hp} {h h1 h2 h' : Heap} {a x e : Addr} {o : HO}
theorem Un.any (u : Un fs ex H H1 h h1) {b : Addr} {ob : Obj} (q : h.get? b = some ob) (n : H b = none) (hx : b ∉ ex) : ∃ sl, h1.get? b = some { ob with slots := sl } := by
  by_cases hb : b ∈ fs
  · exact u.slot b ob q n hb hx
  · exact ⟨ob.slots, u.keep b ob q n hb hx⟩
theorem Un.kept (k : ∀ b u, h.get? b = some u -> h'.get? b = some u) : Un fs ex H H h h' :=
  ⟨fun b ob q _ _ _ => k b ob q, fun b ob q _ _ _ => ⟨ob.slots, k b ob q⟩, fun _ _ _ n _ => n, fun b ob q _ => ⟨ob, k b ob q⟩, fun _ _ q => q, fun _ _ _ q => q, fun _ ps q => ⟨#[], by rw [q]; simp⟩⟩
theorem Un.refl : Un fs ex H H h h := Un.kept fun _ _ q => q
theorem Un.laid (k : ∀ b u, h.get? b = some u -> h'.get? b = some u) (hp : h.objs.size <= a) (hn : H a = none) : Un fs ex H (upd H a o) h h' where
  keep := fun b u q _ _ _ => k b u q
  slot := fun b u q _ _ _ => ⟨u.slots, k b u q⟩
  free := fun b u q n _ => by rw [upd_ne (Nat.ne_of_lt (Nat.lt_of_lt_of_le (Heap.lt_size q) hp))]; exact n
  there := fun b u q _ => ⟨u, k b u q⟩
  tups := fun b xs q => by rw [upd_ne (ne_of_none q hn)]; exact q
  frzs := fun b u xs q => by rw [upd_ne (ne_of_none q hn)]; exact q
  tbls := fun b ps q => ⟨#[], by rw [upd_ne (ne_of_none q hn), q]; simp⟩
theorem Un.write (mu : Mut (H x)) (he : e = x \/ H e = some (.own x)) (k : ∀ b u, b ≠ e -> h.get? b = some u -> h'.get? b = some u) (heo : ∃ u, h'.get? e = some u) : Un fs ex H (upd H x o) h h' := by
  have hx : ∀ b, H b = none -> b ≠ x := fun b n z => by subst z; rw [n] at mu; exact mu
  have hb : ∀ b, H b = none -> b ≠ e := fun b n z => by
    subst z
    rcases he with r | r
    · exact hx b n r
    · rw [n] at r; cases r
  have hm : ∀ b u, H b = some u -> ¬ Mut (some u) -> b ≠ x := fun b u q nm z => by subst z; rw [q] at mu; exact nm mu
  refine ⟨fun b u q n _ _ => k b u (hb b n) q, fun b u q n _ _ => ⟨u.slots, k b u (hb b n) q⟩, fun b u q n _ => by rw [upd_ne (hx b n)]; exact n, fun b u q _ => ?_,
    fun b xs q => by rw [upd_ne (hm b _ q fun z => z)]; exact q, fun b u xs q => by rw [upd_ne (hm b _ q fun z => z)]; exact q, fun b ps q => ⟨#[], by rw [upd_ne (hm b _ q fun z => z), q]; simp⟩⟩
  by_cases hbe : b = e
  · subst hbe; exact heo
  · exact ⟨u, k b u hbe q⟩
end
def trk (h : Heap) (H : Hp) : List Addr := (List.range h.objs.size).filter fun a => (H a).isSome
def hidT (h : Heap) (H : Hp) : Heap := PySem.W.hideAll h (trk h H)
theorem hidT_size (h : Heap) (H : Hp) : (hidT h H).objs.size = h.objs.size := PySem.W.hideAll_size _ _
theorem hidT_get {h : Heap} {H : Hp} {b : Addr} {o : Obj} (e : h.get? b = some o) (n : H b = none) : (hidT h H).get? b = some o :=
  PySem.W.hideAll_get _ e fun hm => by
    have q : (H b).isSome = true := (List.mem_filter.mp hm).2
    rw [n] at q; simp at q
theorem of_hidT {h : Heap} {H : Hp} {b : Addr} {o : Obj} (e : (hidT h H).get? b = some o) : h.get? b = some o /\ H b = none := by
  have e' : h.get? b = some o := PySem.W.of_hideAll (trk h H) e
  refine ⟨e', ?_⟩
  cases q : H b with
  | none => rfl
  | some x =>
    have hm : b ∈ trk h H := List.mem_filter.mpr ⟨List.mem_range.mpr (Heap.lt_size e'), by simp [q]⟩
    have z : (hidT h H).get? b = none := PySem.W.hideAll_none (trk h H) hm
    rw [z] at e; cases e
end L2
namespace L2
open PySem PySem.Spec PyProof.Rows
structure Mod (K : PySem.W.Frag) (mg : Str -> Option Value) (base : Heap) : Prop where
  kin : K.In base
  glob : base.Ns mainGlobals mg
  blt : ∃ mb, base.Ns builtinsNs mb /\ ∀ x : Str, x ≠ "__name__" -> mb x = bootBuiltins x
  nolimit : base.NoLimit
structure Cx where
  prog : Program
  w : World
  K : PySem.W.Frag
  mg : Str -> Option Value
  base : Heap
  A : Around
  N : List Str
  s₀ : Shared
  H₀ : Hp
  env : Env
  outer : List Env
  stack : List Env
  ex : List Addr
  fn : Str -> Bool
  calm : Bool
  pn : List (Addr × Obj)
  xe : Value -> Shared -> Prop
def frs (l : List Env) : List Addr := l.filterMap (·.frame)
abbrev Cx.fs (X : Cx) : List Addr := frs X.outer
def Vis (sc : Scope) (x : Str) : Prop := sc.names.lookup x = some .local \/ sc.names.lookup x = some .cell \/ sc.names.lookup x = some .free
def Loc (sc : Scope) (x : Str) : Prop := sc.names.lookup x = some .local \/ sc.names.lookup x = some .cell
def Look (env : Env) (h : Heap) (m : Str -> Option Value) (x : Str) (u : Value) : Prop :=
  (env.kindOf x = some .local /\ m x = some u) \/ ((env.kindOf x = some .cell \/ env.kindOf x = some .free) /\ ∃ c, env.cells.lookup x = some c /\ h.IsCell c (some u))
structure Cx.Ok (X : Cx) : Prop where
  mod : Mod X.K X.mg X.base
  kind : X.env.scope.kind = .function
  glob : X.env.globals = mainGlobals
  blt : X.env.builtins = builtinsNs
  above : X.s₀.heap.objs.size <= X.env.locals
  inj : ∀ x y c, X.env.cells.lookup x = some c -> X.env.cells.lookup y = some c -> x = y
  has : ∀ x, (X.env.kindOf x = some .cell \/ X.env.kindOf x = some .free) -> ∃ c, X.env.cells.lookup x = some c
  cab : ∀ x c, X.fn x = true -> X.env.cells.lookup x = some c -> X.s₀.heap.objs.size <= c
  hd : X.calm = true -> X.A.handled = none
  frames : X.A.frames = some X.stack
  stk : X.stack = X.outer \/ (X.stack = X.env :: X.outer /\ X.env.frame = some X.env.locals)
  exf : ∀ b ∈ X.ex, b ≠ X.env.locals /\ ∀ x c, X.env.cells.lookup x = some c -> c ≠ b
  bs : ∀ b o, X.base.get? b = some o -> X.s₀.heap.get? b = some o /\ X.H₀ b = none
  bsz : X.base.objs.size <= X.s₀.heap.objs.size
  noex : ∀ b o, X.base.get? b = some o -> b ∉ X.ex
  exfs : ∀ b ∈ X.ex, b ∉ X.fs
  funs : X.s₀.heap.FunFrames X.base X.outer
  frf : ∀ b ∈ X.fs, X.H₀ b = none
structure Inv (X : Cx) (pins : List (Addr × Obj)) (σ : List (Option V)) (H : Hp) (s : Shared) : Prop where
  ok : X.Ok
  os : s.os = X.s₀.os
  bare : AllBare s.gens
  base : Un X.fs X.ex X.H₀ H X.s₀.heap s.heap
  loc : ∃ m, s.heap.Ns X.env.locals m /\ ∀ (i : Nat) (x : Str) (v : V), X.N[i]? = some x -> σ[i]? = some (some v) -> Vis X.env.scope x -> ∃ u, RelV v u /\ Look X.env s.heap m x u
  cell : ∀ x c, X.env.cells.lookup x = some c -> ∃ v, s.heap.IsCell c v
  free : H X.env.locals = none
  freeC : ∀ x c, X.env.cells.lookup x = some c -> H c = none
  pin : ∀ p ∈ X.pn ++ pins, s.heap.get? p.1 = some p.2 /\ H p.1 = none /\ p.1 ≠ X.env.locals /\ p.1 ∉ X.fs /\ ∀ v, p.2.data ≠ .cell v
  hok : HOk X.prog X.w H s.heap
  len : σ.length = X.N.length
section
variable {X : Cx} {pins : List (Addr × Obj)} {σ : List (Option V)} {H H' : Hp} {s : Shared} {h' : Heap}
theorem Cx.Ok.nofr (ok : X.Ok) {b : Addr} {o : Obj} (e : X.base.get? b = some o) : b ∉ X.fs := fun hb => by
  have := (ok.funs.mem hb).1
  rw [e] at this; cases this
theorem Inv.bs (I : Inv X pins σ H s) : ∀ b o, X.base.get? b = some o -> s.heap.get? b = some o /\ H b = none := fun b o e =>
  ⟨I.base.keep b o (I.ok.bs b o e).1 (I.ok.bs b o e).2 (I.ok.nofr e) (I.ok.noex b o e), I.base.free b o (I.ok.bs b o e).1 (I.ok.bs b o e).2 (I.ok.noex b o e)⟩
theorem Inv.bk (I : Inv X pins σ H s) : ∀ b o, X.base.get? b = some o -> s.heap.get? b = some o := fun b o e => (I.bs b o e).1
theorem Inv.mod (I : Inv X pins σ H s) : Mod X.K X.mg X.base := I.ok.mod
theorem Inv.kIn (I : Inv X pins σ H s) : X.K.In s.heap := I.ok.mod.kin.keeps I.bk
theorem Inv.lt (I : Inv X pins σ H s) : X.env.locals < s.heap.objs.size := let ⟨_, hn, _⟩ := I.loc; hn.lt
theorem Inv.sz (I : Inv X pins σ H s) : X.s₀.heap.objs.size <= s.heap.objs.size := Nat.le_trans I.ok.above (Nat.le_of_lt I.lt)
theorem Inv.nofs (I : Inv X pins σ H s) {a : Addr} (h : s.heap.objs.size <= a) : a ∉ X.fs := fun hb => by
  obtain ⟨_, o, ho, _⟩ := I.ok.funs.mem hb
  exact absurd (Nat.lt_of_lt_of_le (Heap.lt_size ho) (Nat.le_trans I.sz h)) (Nat.lt_irrefl _)
theorem Inv.cne (I : Inv X pins σ H s) : ∀ x c, X.env.cells.lookup x = some c -> c ≠ X.env.locals := fun x c e z => by
  obtain ⟨v, o, ho, hd⟩ := I.cell x c e
  obtain ⟨m, ⟨o', es, ep, ho', hd', _⟩, _⟩ := I.loc
  rw [z, ho'] at ho; cases ho; rw [hd'] at hd; cases hd
theorem Inv.funs (I : Inv X pins σ H s) : s.heap.FunFrames X.base X.outer := by
  have all : ∀ (l : List Env), (∀ b ∈ frs l, b ∈ X.fs) -> X.s₀.heap.FunFrames X.base l -> s.heap.FunFrames X.base l := by
    intro l
    induction l with
    | nil => intro _ _; trivial
    | cons env r ih =>
      intro hs hl
      obtain ⟨hk, ⟨L, o, hf, hn, ho, hd⟩, hr⟩ := hl
      have hL : L ∈ X.fs := hs L (by unfold frs; rw [List.filterMap_cons, hf]; exact List.mem_cons_self)
      obtain ⟨sl, e⟩ := I.base.slot L o ho (I.ok.frf L hL) hL fun z => I.ok.exfs L z hL
      exact ⟨hk, ⟨L, _, hf, hn, e, hd⟩, ih (fun b hb => hs b (by unfold frs; rw [List.filterMap_cons, hf]; exact List.mem_cons_of_mem _ hb)) hr⟩
  exact all X.outer (fun _ hb => hb) I.ok.funs
theorem Inv.stack (I : Inv X pins σ H s) : s.heap.FunFrames X.base X.stack := by
  rcases I.ok.stk with e | ⟨e, hf⟩
  · rw [e]; exact I.funs
  · rw [e]
    obtain ⟨m, hn, _⟩ := I.loc
    refine .cons (by rw [I.ok.kind]; decide) hf hn ?_ I.funs
    exact Heap.get?_none_of_le (Nat.le_trans I.ok.bsz I.ok.above)
theorem Inv.stkSub (I : Inv X pins σ H s) : ∀ b ∈ frs X.stack, b ∈ X.env.locals :: X.fs := fun b hb => by
  rcases I.ok.stk with e | ⟨e, hf⟩
  · rw [e] at hb; exact List.mem_cons_of_mem _ hb
  · rw [e] at hb
    unfold frs at hb
    rw [List.filterMap_cons, hf] at hb
    exact hb
theorem Inv.stkFree (I : Inv X pins σ H s) : ∀ b ∈ frs X.stack, H b = none := fun b hb => by
  rcases List.mem_cons.mp (I.stkSub b hb) with e | hb
  · rw [e]; exact I.free
  · obtain ⟨_, o, ho, _⟩ := I.ok.funs.mem hb
    exact I.base.free b o ho (I.ok.frf b hb) fun z => I.ok.exfs b z hb
theorem Inv.step {g' : Array GenState} {t' : Nat} {d' : Drawn} {ch : List Addr} (I : Inv X pins σ H s)
    (hch : ∀ b ∈ ch, (b ∈ X.ex \/ X.s₀.heap.objs.size <= b) /\ b ≠ X.env.locals /\ (∀ x c, X.env.cells.lookup x = some c -> c ≠ b) /\ ∀ p ∈ X.pn ++ pins, p.1 ≠ b)
    (keep : ∀ b o, b ≠ X.env.locals -> b ∉ X.fs -> b ∉ ch -> s.heap.get? b = some o -> H b = none -> h'.get? b = some o)
    (slot : ∀ b o, b ≠ X.env.locals -> b ∈ X.fs -> b ∉ ch -> s.heap.get? b = some o -> H b = none -> ∃ sl, h'.get? b = some { o with slots := sl }) (free : ∀ b o, b ∉ ch -> s.heap.get? b = some o -> H b = none -> H' b = none)
    (there : ∀ b o, b ∉ ch -> s.heap.get? b = some o -> ∃ o', h'.get? b = some o')
    (tups : ∀ b xs, H b = some (.tup xs) -> H' b = some (.tup xs)) (frzs : ∀ b o u, H b = some (.frz o u) -> H' b = some (.frz o u)) (tbls : ∀ b ps, H b = some (.tbl ps) -> ∃ more, H' b = some (.tbl (ps ++ more)))
    (ns : ∀ m, s.heap.Ns X.env.locals m -> h'.Ns X.env.locals m) (hok : HOk X.prog X.w H' h') (hg : AllBare g') :
    Inv X pins σ H' { s with heap := h', gens := g', drawn := d', toks := t' } := by
  have neL : ∀ b o, X.s₀.heap.get? b = some o -> b ≠ X.env.locals := fun b o e => Nat.ne_of_lt (Nat.lt_of_lt_of_le (Heap.lt_size e) I.ok.above)
  have neC : ∀ b o, X.s₀.heap.get? b = some o -> b ∉ X.ex -> b ∉ ch := fun b o e hx hb => by
    rcases (hch b hb).1 with z | z
    · exact hx z
    · exact absurd (Nat.lt_of_lt_of_le (Heap.lt_size e) z) (Nat.lt_irrefl _)
  have cellK : ∀ x c, X.env.cells.lookup x = some c -> ∀ v, s.heap.IsCell c v -> h'.IsCell c v := fun x c e v ⟨o, ho, hd⟩ => by
    have nch : c ∉ ch := fun z => (hch c z).2.2.1 x c e rfl
    by_cases hc : c ∈ X.fs
    · obtain ⟨sl, q⟩ := slot c o (I.cne x c e) hc nch ho (I.freeC x c e)
      exact ⟨_, q, hd⟩
    · exact ⟨o, keep c o (I.cne x c e) hc nch ho (I.freeC x c e), hd⟩
  refine ⟨I.ok, I.os, hg, ⟨fun b o e n hb hx => ?_, fun b o e n hb hx => ?_, fun b o e n hx => ?_, fun b o e hx => ?_, fun b xs e => tups b xs (I.base.tups b xs e), fun b o xs e => frzs b o xs (I.base.frzs b o xs e), fun b ps e => ?_⟩, ?_, fun x c e => ?_, ?_, fun x c e => ?_, fun p hp => ?_, hok, I.len⟩
  · exact keep b o (neL b o e) hb (neC b o e hx) (I.base.keep b o e n hb hx) (I.base.free b o e n hx)
  · obtain ⟨sl, e1⟩ := I.base.slot b o e n hb hx
    obtain ⟨sl', e2⟩ := slot b _ (neL b o e) hb (neC b o e hx) e1 (I.base.free b o e n hx)
    exact ⟨sl', e2⟩
  · obtain ⟨o', e1⟩ := I.base.there b o e hx
    exact free b o' (neC b o e hx) e1 (I.base.free b o e n hx)
  · obtain ⟨o', e1⟩ := I.base.there b o e hx
    exact there b o' (neC b o e hx) e1
  · obtain ⟨m1, e1⟩ := I.base.tbls b ps e
    obtain ⟨m2, e2⟩ := tbls b _ e1
    exact ⟨m1 ++ m2, by rw [e2, Array.append_assoc]⟩
  · obtain ⟨m, hn, hl⟩ := I.loc
    refine ⟨m, ns m hn, fun i x v e1 e2 e3 => ?_⟩
    obtain ⟨u, r, l⟩ := hl i x v e1 e2 e3
    refine ⟨u, r, ?_⟩
    rcases l with l | ⟨k, c, e, z⟩
    · exact .inl l
    · exact .inr ⟨k, c, e, cellK x c e _ z⟩
  · obtain ⟨v, z⟩ := I.cell x c e
    exact ⟨v, cellK x c e v z⟩
  · obtain ⟨m, ⟨o, _, _, ho, _⟩, _⟩ := I.loc
    exact free _ o (fun z => (hch _ z).2.1 rfl) ho I.free
  · obtain ⟨v, o, ho, hd⟩ := I.cell x c e
    exact free c o (fun z => (hch c z).2.2.1 x c e rfl) ho (I.freeC x c e)
  · obtain ⟨e, n, ne, nf, d⟩ := I.pin p hp
    have nch : p.1 ∉ ch := fun z => (hch p.1 z).2.2.2 p hp rfl
    exact ⟨keep p.1 p.2 ne nf nch e n, free p.1 p.2 nch e n, ne, nf, d⟩
theorem Inv.un {t' : Nat} (I : Inv X pins σ H s) (u : Un X.fs [] H H' s.heap h') (hok : HOk X.prog X.w H' h') : Inv X pins σ H' { s with heap := h', toks := t' } := by
  obtain ⟨m, ⟨o, es, ep, ho, r⟩, _⟩ := id I.loc
  obtain ⟨sl, hL⟩ := u.any ho I.free (by simp)
  exact I.step (g' := s.gens) (d' := s.drawn) (ch := []) (fun _ z => nomatch z) (fun b o _ hb _ e n => u.keep b o e n hb (by simp)) (fun b o _ hb _ e n => u.slot b o e n hb (by simp)) (fun b o _ e n => u.free b o e n (by simp)) (fun b o _ e => u.there b o e (by simp)) u.tups u.frzs u.tbls (fun m' hm => by
    obtain ⟨o', es', ep', ho', r'⟩ := hm
    rw [ho] at ho'; cases ho'
    exact ⟨_, es', ep', hL, r'⟩) hok I.bare
theorem Inv.call {g' : Array GenState} {t' : Nat} {d' : Drawn} {ch : List Addr} (I : Inv X pins σ H s) (u : Un (frs X.stack) ch H H' s.heap h') (hok : HOk X.prog X.w H' h') (hg : AllBare g')
    (hch : ∀ b ∈ ch, (b ∈ X.ex \/ X.s₀.heap.objs.size <= b) /\ b ≠ X.env.locals /\ (∀ x c, X.env.cells.lookup x = some c -> c ≠ b) /\ ∀ p ∈ X.pn ++ pins, p.1 ≠ b) :
    Inv X pins σ H' { s with heap := h', gens := g', drawn := d', toks := t' } := by
  obtain ⟨m, ⟨o, es, ep, ho, r⟩, _⟩ := id I.loc
  obtain ⟨sl, hL⟩ := u.any ho I.free fun z => (hch _ z).2.1 rfl
  exact I.step (ch := ch) hch (fun b o hL hb hc e n => u.keep b o e n (fun z => (List.mem_cons.mp (I.stkSub b z)).elim hL hb) hc) (fun b o _ _ hc e n => u.any e n hc) (fun b o hc e n => u.free b o e n hc) (fun b o hc e => u.there b o e hc) u.tups u.frzs u.tbls (fun m' hm => by
    obtain ⟨o', es', ep', ho', r'⟩ := hm
    rw [ho] at ho'; cases ho'
    exact ⟨_, es', ep', hL, r'⟩) hok hg
theorem Inv.turned {t' : Nat} {it : Addr} (I : Inv X pins σ H s) (k : ∀ b o, b ≠ it -> s.heap.get? b = some o -> h'.get? b = some o) (hn : H it = none) (hL : it ≠ X.env.locals)
    (h1 : it ∈ X.ex \/ X.s₀.heap.objs.size <= it) (h2 : ∀ x c, X.env.cells.lookup x = some c -> c ≠ it) (h3 : ∀ p ∈ X.pn ++ pins, p.1 ≠ it) : Inv X pins σ H { s with heap := h', toks := t' } := by
  have nit : ∀ b u, H b = some u -> b ≠ it := fun b u e z => by rw [z, hn] at e; cases e
  refine I.step (g' := s.gens) (d' := s.drawn) (ch := [it]) (fun b hb => ?_) (fun b o _ _ hc e _ => k b o (fun z => hc (by simp [z])) e) (fun b o _ _ hc e _ => ⟨o.slots, k b o (fun z => hc (by simp [z])) e⟩) (fun _ _ _ _ n => n)
    (fun b o hc e => ⟨o, k b o (fun z => hc (by simp [z])) e⟩) (fun _ _ e => e) (fun _ _ _ e => e) (fun b ps e => ⟨#[], by rw [e]; simp⟩) (fun m hm => ?_) (fun b u e => ?_) I.bare
  · have e : b = it := by simpa using hb
    subst e
    exact ⟨h1, hL, h2, h3⟩
  · obtain ⟨o, es, ep, ho, r⟩ := hm
    exact ⟨o, es, ep, k _ o (Ne.symm hL) ho, r⟩
  · refine (I.hok b u e).stay (fun c v hc q => k c v ?_ q) (fun _ q => q) fun _ _ q => q
    rcases hc with z | z
    · rw [z]; exact nit b u e
    · exact nit c _ z
theorem Inv.tok (I : Inv X pins σ H s) (t : Nat) : Inv X pins σ H { s with toks := t } := I.un (h' := s.heap) (t' := t) Un.refl I.hok
theorem Inv.kept {t' : Nat} (I : Inv X pins σ H s) (k : ∀ b u, s.heap.get? b = some u -> h'.get? b = some u) : Inv X pins σ H { s with heap := h', toks := t' } := I.un (Un.kept k) (I.hok.kept k)
theorem Inv.laid {a : Addr} {o : HO} {t' : Nat} (I : Inv X pins σ H s) (k : ∀ b u, s.heap.get? b = some u -> h'.get? b = some u) (hp : s.heap.objs.size <= a) (new : ObjOk X.prog X.w (upd H a o) h' a o) :
    Inv X pins σ (upd H a o) { s with heap := h', toks := t' } := I.un (Un.laid k hp (I.hok.fresh hp)) (I.hok.laid k hp new)
theorem Inv.write {x e : Addr} {o : HO} {t' : Nat} (I : Inv X pins σ H s) (mu : Mut (H x)) (he : e = x \/ H e = some (.own x)) (k : ∀ b u, b ≠ e -> s.heap.get? b = some u -> h'.get? b = some u) (heo : ∃ u, h'.get? e = some u)
    (new : ObjOk X.prog X.w (upd H x o) h' x o) : Inv X pins σ (upd H x o) { s with heap := h', toks := t' } := I.un (Un.write mu he k heo) (I.hok.write mu he k heo new)
theorem Inv.weak {σ' : List (Option V)} (I : Inv X pins σ H s) (hl : σ'.length = σ.length) (w : ∀ (i : Nat) v, σ'[i]? = some (some v) -> σ[i]? = some (some v)) : Inv X pins σ' H s :=
  ⟨I.ok, I.os, I.bare, I.base, let ⟨m, hn, hl'⟩ := I.loc; ⟨m, hn, fun i x v e1 e2 e3 => hl' i x v e1 (w i v e2) e3⟩, I.cell, I.free, I.freeC, I.pin, I.hok, hl.trans I.len⟩
theorem Inv.pins_of {pins' : List (Addr × Obj)} (I : Inv X pins σ H s) (h : ∀ p ∈ pins', s.heap.get? p.1 = some p.2 /\ H p.1 = none /\ p.1 ≠ X.env.locals /\ p.1 ∉ X.fs /\ ∀ v, p.2.data ≠ .cell v) : Inv X pins' σ H s :=
  ⟨I.ok, I.os, I.bare, I.base, I.loc, I.cell, I.free, I.freeC, fun p hp => (List.mem_append.mp hp).elim (fun z => I.pin p (List.mem_append_left _ z)) (h p), I.hok, I.len⟩
theorem nodup_ix {N : List Str} (hN : N.Nodup) {i j : Nat} {x : Str} (a : N[i]? = some x) (b : N[j]? = some x) : i = j := by
  obtain ⟨h1, e1⟩ := List.getElem?_eq_some_iff.mp a
  obtain ⟨h2, e2⟩ := List.getElem?_eq_some_iff.mp b
  exact (List.getElem_inj hN).mp (e1.trans e2.symm)
theorem store_ok2 {M : Model} {A : Around} {E : Value -> Shared -> Prop} {i : Nat} {x : Str} {v : V} {u : Value} {Q : Unit -> Shared -> Prop} (I : Inv X pins σ H s) (hN : X.N.Nodup) (hi : X.N[i]? = some x) (hx : Loc X.env.scope x) (r : RelV v u)
    (h : ∀ s', Inv X pins (σ.set i (some v)) H s' -> (∃ a, Heap.SameBut a s.heap s'.heap /\ (a = X.env.locals \/ X.env.cells.lookup x = some a)) -> Q () s') (hf : X.fn x = true \/ X.env.scope.names.lookup x = some .local := by first | exact .inl rfl | exact .inr rfl | assumption) : wpAny M A (storeName X.env x u) Q E s := by
  obtain ⟨m, hn, hl⟩ := id I.loc
  have hcls : (X.env.scope.kind == .class || (X.env.scope.kind == .module && X.env.locals != X.env.globals)) = false := by rw [I.ok.kind]; rfl
  have hiσ : i < σ.length := by rw [I.len]; exact (List.getElem?_eq_some_iff.mp hi).1
  have cne := I.cne
  have tracked : ∀ {a : Addr} {h' : Heap}, (∃ o, s.heap.get? a = some o /\ H a = none) -> Heap.SameBut a s.heap h' -> HOk X.prog X.w H h' := fun {a h'} ha hs b ob e => by
    obtain ⟨_, _, hfree⟩ := ha
    refine (I.hok b ob e).stay (fun c w' hc q => (hs.2 c ?_).trans q) (fun _ q => q) fun _ _ q => q
    rintro rfl
    rcases hc with rfl | hc
    · rw [hfree] at e; cases e
    · rw [hfree] at hc; cases hc
  rcases hx with hk | hk
  · refine wpAny_storeName_local hk hn (fun h' hn' hs => ?_) hcls
    obtain ⟨oL, _, _, hoL, _⟩ := id hn
    refine h _ ⟨I.ok, I.os, I.bare, ⟨fun b o e n hb hx => ?_, fun b o e n hb hx => ?_, I.base.free, fun b o e hx => ?_, I.base.tups, I.base.frzs, I.base.tbls⟩, ⟨_, hn', fun j y v' e1 e2 e3 => ?_⟩, fun y c e => ?_, I.free, I.freeC, fun p hp => ?_, tracked ⟨oL, hoL, I.free⟩ hs, by simpa using I.len⟩ ⟨_, hs, .inl rfl⟩
    · exact (hs.2 b (Nat.ne_of_lt (Nat.lt_of_lt_of_le (Heap.lt_size e) I.ok.above))).trans (I.base.keep b o e n hb hx)
    · obtain ⟨sl, e1⟩ := I.base.slot b o e n hb hx
      exact ⟨sl, (hs.2 b (Nat.ne_of_lt (Nat.lt_of_lt_of_le (Heap.lt_size e) I.ok.above))).trans e1⟩
    · obtain ⟨o', e1⟩ := I.base.there b o e hx
      exact ⟨o', (hs.2 b (Nat.ne_of_lt (Nat.lt_of_lt_of_le (Heap.lt_size e) I.ok.above))).trans e1⟩
    · by_cases hj : j = i
      · subst hj
        rw [hi] at e1; cases e1
        rw [List.getElem?_set_self hiσ] at e2
        cases e2
        exact ⟨u, r, .inl ⟨hk, by simp⟩⟩
      · rw [List.getElem?_set_ne (Ne.symm hj)] at e2
        obtain ⟨u', r', q⟩ := hl j y v' e1 e2 e3
        refine ⟨u', r', ?_⟩
        rcases q with ⟨k, e⟩ | ⟨k, c, e, z⟩
        · refine .inl ⟨k, ?_⟩
          have : y ≠ x := fun e => hj (nodup_ix hN e1 (e ▸ hi))
          simp [this, e]
        · exact .inr ⟨k, c, e, z.sameBut hs (cne y c e)⟩
    · obtain ⟨w', z⟩ := I.cell y c e
      exact ⟨w', z.sameBut hs (cne y c e)⟩
    · obtain ⟨e, n, ne, nf, d⟩ := I.pin p hp
      exact ⟨(hs.2 p.1 ne).trans e, n, ne, nf, d⟩
  · have hfn : X.fn x = true := by
      rcases hf with z | z
      · exact z
      · rw [z] at hk; cases hk
    obtain ⟨c, hc⟩ := I.ok.has x (.inl hk)
    obtain ⟨w', z⟩ := I.cell x c hc
    refine wpAny_storeName_cell I.ok.kind hk hc z (fun h' hc' hs => ?_)
    obtain ⟨oc, hoc, hocd⟩ := id z
    refine h { s with heap := h' } ⟨I.ok, I.os, I.bare, ⟨fun b o e n hb hx => ?_, fun b o e n hb hx => ?_, I.base.free, fun b o e hx => ?_, I.base.tups, I.base.frzs, I.base.tbls⟩, ⟨m, hn.sameBut hs (Ne.symm (cne x c hc)), fun j y v' e1 e2 e3 => ?_⟩, fun y c' e => ?_, I.free, I.freeC, fun p hp => ?_, tracked ⟨oc, hoc, I.freeC x c hc⟩ hs, by simpa using I.len⟩ ⟨c, hs, .inr hc⟩
    · exact (hs.2 b (Nat.ne_of_lt (Nat.lt_of_lt_of_le (Heap.lt_size e) (I.ok.cab x c hfn hc)))).trans (I.base.keep b o e n hb hx)
    · obtain ⟨sl, e1⟩ := I.base.slot b o e n hb hx
      exact ⟨sl, (hs.2 b (Nat.ne_of_lt (Nat.lt_of_lt_of_le (Heap.lt_size e) (I.ok.cab x c hfn hc)))).trans e1⟩
    · obtain ⟨o', e1⟩ := I.base.there b o e hx
      exact ⟨o', (hs.2 b (Nat.ne_of_lt (Nat.lt_of_lt_of_le (Heap.lt_size e) (I.ok.cab x c hfn hc)))).trans e1⟩
    · by_cases hj : j = i
      · subst hj
        rw [hi] at e1; cases e1
        rw [List.getElem?_set_self hiσ] at e2
        cases e2
        exact ⟨u, r, .inr ⟨.inl hk, c, hc, hc'⟩⟩
      · rw [List.getElem?_set_ne (Ne.symm hj)] at e2
        obtain ⟨u', r', q⟩ := hl j y v' e1 e2 e3
        refine ⟨u', r', ?_⟩
        rcases q with q | ⟨k, c', e, z'⟩
        · exact .inl q
        · refine .inr ⟨k, c', e, z'.sameBut hs ?_⟩
          rintro rfl
          exact hj (nodup_ix hN e1 (I.ok.inj _ _ _ e hc ▸ hi))
    · by_cases hcc : c' = c
      · subst hcc; exact ⟨_, hc'⟩
      · obtain ⟨w2, z2⟩ := I.cell y c' e
        exact ⟨w2, z2.sameBut hs hcc⟩
    · obtain ⟨e, n, ne, nf, d⟩ := I.pin p hp
      refine ⟨(hs.2 p.1 ?_).trans e, n, ne, nf, d⟩
      intro q
      rw [q, hoc] at e
      have q' : oc = p.2 := Option.some.inj e
      exact d w' (by rw [<- q']; exact hocd)
theorem store_ok {M : Model} {A : Around} {E : Value -> Shared -> Prop} {i : Nat} {x : Str} {v : V} {u : Value} {Q : Unit -> Shared -> Prop} (I : Inv X pins σ H s) (hN : X.N.Nodup) (hi : X.N[i]? = some x) (hx : Loc X.env.scope x) (r : RelV v u)
    (h : ∀ s', Inv X pins (σ.set i (some v)) H s' -> Q () s') (hf : X.fn x = true \/ X.env.scope.names.lookup x = some .local := by first | exact .inl rfl | exact .inr rfl | assumption) : wpAny M A (storeName X.env x u) Q E s :=
  store_ok2 I hN hi hx r (fun s' I' _ => h s' I') hf
theorem Inv.call' {s' : Shared} {ch : List Addr} (I : Inv X pins σ H s) (ho : s'.os = s.os) (u : Un (frs X.stack) ch H H' s.heap s'.heap) (hok : HOk X.prog X.w H' s'.heap) (hg : AllBare s'.gens)
    (hch : ∀ b ∈ ch, (b ∈ X.ex \/ X.s₀.heap.objs.size <= b) /\ b ≠ X.env.locals /\ (∀ x c, X.env.cells.lookup x = some c -> c ≠ b) /\ ∀ p ∈ X.pn ++ pins, p.1 ≠ b) : Inv X pins σ H' s' := by
  obtain ⟨h', g', d', t', o'⟩ := s'
  have e : o' = s.os := ho
  subst e
  exact I.call (g' := g') (t' := t') (d' := d') u hok hg hch
end
abbrev XK := Value -> Option Addr -> Hp -> Prop
abbrev St := List (Option V)
abbrev VK := V -> Hp -> Prop
abbrev TE := St -> Hp -> VK -> Prop
abbrev TT := St -> Hp -> (Bool -> Hp -> Prop) -> Prop
abbrev TA := St -> Hp -> (List V -> Hp -> Prop) -> Prop
structure Ends where
  nx : St -> Hp -> Prop
  rt : VK
  bk : St -> Hp -> Prop := fun _ _ => False
  ct : St -> Hp -> Prop := fun _ _ => False
abbrev TS := Ends -> St -> Hp -> Prop
def EP (X : Cx) (pins : List (Addr × Obj)) (σ : St) (Q : VK) (u : Value) (s' : Shared) : Prop := ∃ v H', Inv X pins σ H' s' /\ RelV v u /\ Q v H'
def TP (X : Cx) (pins : List (Addr × Obj)) (σ : St) (Q : Bool -> Hp -> Prop) (b : Bool) (s' : Shared) : Prop := ∃ H', Inv X pins σ H' s' /\ Q b H'
def AP (X : Cx) (pins : List (Addr × Obj)) (σ : St) (Q : List V -> Hp -> Prop) (us : List Value) (s' : Shared) : Prop := ∃ vs H', Inv X pins σ H' s' /\ Vals vs us /\ Q vs H'
def SP (X : Cx) (pins : List (Addr × Obj)) (D : Ends) (f : Flow) (s' : Shared) : Prop :=
  match f with
  | .next => ∃ σ' H', Inv X pins σ' H' s' /\ D.nx σ' H'
  | .brk => ∃ σ' H', Inv X pins σ' H' s' /\ D.bk σ' H'
  | .cont => ∃ σ' H', Inv X pins σ' H' s' /\ D.ct σ' H'
  | .ret u => ∃ v σ' H', Inv X pins σ' H' s' /\ RelV v u /\ D.rt v H'
def PE (X : Cx) (e : Expr) (t : TE) : Prop :=
  ∀ (pins : List (Addr × Obj)) (s : Shared) (σ : St) (H : Hp) (Q : VK), Inv X pins σ H s -> t σ H Q -> wpAny (model X.prog X.w) X.A (eval e X.env) (EP X pins σ Q) X.xe s
def PT (X : Cx) (e : Expr) (t : TT) : Prop :=
  ∀ (pins : List (Addr × Obj)) (s : Shared) (σ : St) (H : Hp) (Q : Bool -> Hp -> Prop), Inv X pins σ H s -> t σ H Q -> wpAny (model X.prog X.w) X.A (isTrue e X.env (eval e X.env)) (TP X pins σ Q) X.xe s
def PW (X : Cx) (e : Expr) (t : TT) : Prop :=
  ∀ (whole : Sem Value) (pins : List (Addr × Obj)) (s : Shared) (σ : St) (H : Hp) (Q : Bool -> Hp -> Prop), Inv X pins σ H s -> t σ H Q -> wpAny (model X.prog X.w) X.A (isTrue e X.env whole) (TP X pins σ Q) X.xe s
theorem PW.pt {X : Cx} {e : Expr} {t : TT} (h : PW X e t) : PT X e t := h _
def PA (X : Cx) (es : List Expr) (t : TA) : Prop :=
  ∀ (pos : Pos) (pins : List (Addr × Obj)) (s : Shared) (σ : St) (H : Hp) (Q : List V -> Hp -> Prop), Inv X pins σ H s -> t σ H Q -> wpAny (model X.prog X.w) X.A (spliced (backTo pos (starEach es X.env))) (AP X pins σ Q) X.xe s
def PS (X : Cx) (st : Stmt) (t : TS) : Prop :=
  ∀ (pins : List (Addr × Obj)) (s : Shared) (σ : St) (H : Hp) (D : Ends), Inv X pins σ H s -> t D σ H -> wpAny (model X.prog X.w) X.A (exec st X.env) (SP X pins D) X.xe s
def PSs (X : Cx) (st : List Stmt) (t : TS) : Prop :=
  ∀ (pins : List (Addr × Obj)) (s : Shared) (σ : St) (H : Hp) (D : Ends), Inv X pins σ H s -> t D σ H -> wpAny (model X.prog X.w) X.A (execs st X.env) (SP X pins D) X.xe s
theorem thn {α : Type} {t : Sem α} {Q Q' : α -> Shared -> Prop} {M : Model} {A : Around} {E : Value -> Shared -> Prop} {s : Shared} (h : wpAny M A t Q E s) (hQ : ∀ a s, Q a s -> Q' a s) : wpAny M A t Q' E s := wpAny_mono h hQ fun _ _ x => x
end L2
namespace L2
open PySem PySem.Spec PyProof.Rows
section
variable {X : Cx}
def tVar (i : Nat) : TE := fun σ H Q => ∃ v, σ[i]? = some (some v) /\ Q v H
def tC (v : V) : TE := fun _ H Q => Q v H
theorem pe_var {i : Nat} {x : Str} {pos : Pos} (hN : X.N[i]? = some x) (hv : Vis X.env.scope x) (hd : (x == ("__debug__" : Str)) = false := by decide) (hcd : (x == ("__classdict__" : Str)) = false := by decide) : PE X (.Name x pos) (tVar i) := by
  intro pins s σ H Q I h
  obtain ⟨v, e, h⟩ := h
  obtain ⟨m, hn, hl⟩ := I.loc
  obtain ⟨u, r, l⟩ := hl i x v hN e hv
  have fin : EP X pins σ Q u s := ⟨v, H, I, r, h⟩
  rcases l with ⟨hk, hm⟩ | ⟨hk, c, hc, hcell⟩
  · exact wpAny_Name (wpAny_loadName_local I.ok.kind hk hn hm fin) hd
  · rcases hk with hk | hk
    · exact wpAny_Name (wpAny_loadName_cell I.ok.kind hk hc hcell fin) hd
    · exact wpAny_Name (wpAny_loadName_free I.ok.kind hk hc hcell fin hcd) hd
theorem pe_int {i j pos} : PE X (.Constant (.int i) j pos) (tC (.int i)) := fun _ _ _ H _ I h => wpAny_Constant_int ⟨.int i, H, I.tok _, ⟨_, rfl⟩, h⟩
theorem pe_bl {b j pos} : PE X (.Constant (.bool b) j pos) (tC (.bl b)) := fun _ _ _ H _ I h => Constant_bool ⟨.bl b, H, I, rfl, h⟩
theorem pe_non {j pos} : PE X (.Constant .none j pos) (tC .non) := fun _ _ _ H _ I h => Constant_none ⟨.non, H, I, rfl, h⟩
theorem pe_str {x j pos} : PE X (.Constant (.str x) j pos) (tC (.str x)) := fun _ _ _ H _ I h => Calls.Constant_str ⟨.str x, H, I.tok _, ⟨_, rfl⟩, h⟩
def Gl (X : Cx) (x : Str) : Prop := X.env.kindOf x = some .globalImplicit
theorem ld_glob {E : Value -> Shared -> Prop} {pins : List (Addr × Obj)} {s : Shared} {σ : St} {H : Hp} {x : Str} {u : Value} {pos : Pos} {Q : Value -> Shared -> Prop} (I : Inv X pins σ H s) (hg : Gl X x) (hm : X.mg x = some u) (h : Q u s)
    (hd : (x == ("__debug__" : Str)) = false := by decide) : wpAny (model X.prog X.w) X.A (eval (.Name x pos) X.env) Q E s :=
  Calls.Name_function_global I.ok.kind hg (Calls.loadGlobal_global (by rw [I.ok.glob]; exact I.mod.glob.keeps I.bk) hm h) hd
theorem ld_blt {E : Value -> Shared -> Prop} {pins : List (Addr × Obj)} {s : Shared} {σ : St} {H : Hp} {x : Str} {u : Value} {pos : Pos} {Q : Value -> Shared -> Prop} (I : Inv X pins σ H s) (hg : Gl X x) (hm : X.mg x = none) (hv : bootBuiltins x = some u) (h : Q u s)
    (hn : x ≠ "__name__" := by decide) (hd : (x == ("__debug__" : Str)) = false := by decide) : wpAny (model X.prog X.w) X.A (eval (.Name x pos) X.env) Q E s := by
  obtain ⟨mb, h1, h2⟩ := I.mod.blt
  exact Calls.Name_function_global I.ok.kind hg (Calls.loadGlobal_builtin (by rw [I.ok.glob]; exact I.mod.glob.keeps I.bk) hm (by rw [I.ok.blt]; exact h1.keeps I.bk) ((h2 x hn).trans hv) h) hd
theorem pe_glob {x : Str} {v : V} {u : Value} {pos : Pos} (hg : Gl X x) (hm : X.mg x = some u) (r : RelV v u) (hd : (x == ("__debug__" : Str)) = false := by decide) : PE X (.Name x pos) (tC v) :=
  fun _ _ _ H _ I h => ld_glob I hg hm ⟨v, H, I, r, h⟩ hd
theorem pe_bltn {x : Str} {v : V} {u : Value} {pos : Pos} (hg : Gl X x) (hm : X.mg x = none) (hv : bootBuiltins x = some u) (r : RelV v u) (hn : x ≠ "__name__" := by decide) (hd : (x == ("__debug__" : Str)) = false := by decide) : PE X (.Name x pos) (tC v) :=
  fun _ _ _ H _ I h => ld_blt I hg hm hv ⟨v, H, I, r, h⟩ hn hd
variable {a b : Expr} {ta tb : TE} {pos : Pos}
def PC (X : Cx) (op : CmpOp) (a b : Expr) (t : TE) : Prop :=
  ∀ (pins : List (Addr × Obj)) (s : Shared) (σ : St) (H : Hp) (Q : VK), Inv X pins σ H s -> t σ H Q ->
    wpAny (model X.prog X.w) X.A (eval a X.env) (fun v s₁ => wpAny (model X.prog X.w) X.A (eval b X.env) (fun u s₂ => wpAny (model X.prog X.w) X.A (compareOp op v u) (EP X pins σ Q) X.xe s₂) X.xe s₁) X.xe s
theorem nobehind (b : Expr) {op : CmpOp} (h : op ≠ .In) (h2 : op ≠ .NotIn) : behindInMarks op b = false := by
  have e1 : (op == CmpOp.In) = false := by cases op <;> first | rfl | exact absurd rfl h
  have e2 : (op == CmpOp.NotIn) = false := by cases op <;> first | rfl | exact absurd rfl h2
  cases b <;> simp [behindInMarks, e1, e2]
def tIsN (ta : TE) : TE := fun σ H Q => ta σ H fun x H1 => Q (.bl (decide (x = .non))) H1
theorem RelV.none_iff {x : V} {v : Value} (r : RelV x v) : (v == Value.none) = decide (x = .non) := by
  cases x with
  | non => cases r; rfl
  | bl _ => cases r; rfl
  | int _ => obtain ⟨t, rfl⟩ := r; rfl
  | str _ => obtain ⟨t, rfl⟩ := r; rfl
  | byt _ => obtain ⟨t, rfl⟩ := r; rfl
  | flt _ => obtain ⟨t, rfl⟩ := r; rfl
  | ref _ => cases r; rfl
  | ty _ => cases r; rfl
theorem pc_isN {j pos'} (ha : PE X a ta) : PC X .Is a (.Constant .none j pos') (tIsN ta) := by
  intro pins s σ H Q I h
  refine thn (ha pins s σ H _ I h) fun v s1 ⟨x, H1, I1, r1, q1⟩ => ?_
  exact Constant_none (is_none_gen ⟨.bl _, H1, I1, by rw [r1.none_iff]; rfl, q1⟩)
def tB (t : TE) : TT := fun σ H Q => t σ H fun x H1 => ∃ c, x = .bl c /\ Q c H1
theorem pt_cmp {op : CmpOp} {t : TE} (h : PC X op a b t) (h1 : behindInMarks op b = false := by first | exact nobehind _ (by decide) (by decide) | rfl) : PT X (.Compare a [op] [b] pos) (tB t) := by
  intro pins s σ H Q I hw
  refine wpAny_isTrue_Compare1 (thn (h pins s σ H _ I hw) fun v s1 h1 => thn h1 fun u s2 h2 => thn h2 fun c s3 ⟨x, H1, I1, r1, q1⟩ => ?_) h1
  obtain ⟨d, rfl, q⟩ := q1
  cases r1
  exact wpAny_truthy_bool ⟨H1, I1, q⟩
theorem pt_val {e : Expr} {t : TE} (h : PE X e t) (he : ∀ whole, isTrue e X.env whole = (do let v <- whole; standAt e.pos; holding [v] (truthy v)) := by intro _; rfl) : PT X e (tB t) := by
  intro pins s σ H Q I hw
  refine isTrue_plain (thn (h pins s σ H _ I hw) fun v s1 ⟨x, H1, I1, r1, q1⟩ => ?_) (he _)
  obtain ⟨d, rfl, q⟩ := q1
  cases r1
  exact wpAny_truthy_bool ⟨H1, I1, q⟩
variable {tA tB' : TT} {rest : List Expr}
def tAnd (t u : TT) : TT := fun σ H Q => t σ H fun c H1 => if c = true then u σ H1 Q else Q false H1
def tOr (t u : TT) : TT := fun σ H Q => t σ H fun c H1 => if c = true then Q true H1 else u σ H1 Q
def tNot (t : TT) : TT := fun σ H Q => t σ H fun c H1 => Q (!c) H1
theorem pw_and1 (ha : PT X a tA) : PW X (.BoolOp .And [a] pos) tA := by
  intro wh pins s σ H Q I h
  refine isTrue_and (thn (ha pins s σ H Q I h) fun c s1 e => ?_)
  cases c with
  | true => exact isTrue_and_nil e
  | false => exact e
theorem pw_or1 (ha : PT X a tA) : PW X (.BoolOp .Or [a] pos) tA := by
  intro wh pins s σ H Q I h
  refine isTrue_or (thn (ha pins s σ H Q I h) fun c s1 e => ?_)
  cases c with
  | false => exact isTrue_or_nil e
  | true => exact e
theorem pw_and (ha : PT X a tA) (hb : PW X (.BoolOp .And (b :: rest) pos) tB') : PW X (.BoolOp .And (a :: b :: rest) pos) (tAnd tA tB') := by
  intro wh pins s σ H Q I h
  refine isTrue_and (thn (ha pins s σ H _ I h) fun c s1 ⟨H1, I1, q1⟩ => ?_)
  cases c with
  | true => exact hb wh pins s1 σ H1 Q I1 q1
  | false => exact ⟨H1, I1, q1⟩
theorem pw_or (ha : PT X a tA) (hb : PW X (.BoolOp .Or (b :: rest) pos) tB') : PW X (.BoolOp .Or (a :: b :: rest) pos) (tOr tA tB') := by
  intro wh pins s σ H Q I h
  refine isTrue_or (thn (ha pins s σ H _ I h) fun c s1 ⟨H1, I1, q1⟩ => ?_)
  cases c with
  | true => exact ⟨H1, I1, q1⟩
  | false => exact hb wh pins s1 σ H1 Q I1 q1
theorem pt_not (ha : PT X a tA) : PT X (.UnaryOp .Not a pos) (tNot tA) := by
  intro pins s σ H Q I h
  exact isTrue_not (ha pins s σ H (fun c H1 => Q (!c) H1) I h)
def tAndV (ta tb : TE) : TE := fun σ H Q => ta σ H fun x H1 => ∃ c, x = .bl c /\ if c = true then tb σ H1 Q else Q (.bl false) H1
def tOrV (ta tb : TE) : TE := fun σ H Q => ta σ H fun x H1 => ∃ c, x = .bl c /\ if c = true then Q (.bl true) H1 else tb σ H1 Q
def tNotV (ta : TE) : TE := fun σ H Q => ta σ H fun x H1 => ∃ c, x = .bl c /\ Q (.bl (!c)) H1
theorem pe_one {op} {t : TE} (h : PE X a t) : PE X (.BoolOp op [a] pos) t := fun pins s σ H Q I hw => BoolOp_one (h pins s σ H Q I hw)
theorem pe_and (ha : PE X a ta) (hb : PE X (.BoolOp .And (b :: rest) pos) tb) : PE X (.BoolOp .And (a :: b :: rest) pos) (tAndV ta tb) := by
  intro pins s σ H Q I h
  refine BoolOp_and (thn (ha pins s σ H _ I h) fun v s1 ⟨x, H1, I1, r1, q1⟩ => ?_)
  obtain ⟨c, rfl, q1⟩ := q1
  cases r1
  refine wpAny_truthy_bool ?_
  cases c with
  | true => exact hb pins s1 σ H1 Q I1 q1
  | false => exact ⟨.bl false, H1, I1, rfl, q1⟩
theorem pe_or (ha : PE X a ta) (hb : PE X (.BoolOp .Or (b :: rest) pos) tb) : PE X (.BoolOp .Or (a :: b :: rest) pos) (tOrV ta tb) := by
  intro pins s σ H Q I h
  refine BoolOp_or (thn (ha pins s σ H _ I h) fun v s1 ⟨x, H1, I1, r1, q1⟩ => ?_)
  obtain ⟨c, rfl, q1⟩ := q1
  cases r1
  refine wpAny_truthy_bool ?_
  cases c with
  | false => exact hb pins s1 σ H1 Q I1 q1
  | true => exact ⟨.bl true, H1, I1, rfl, q1⟩
theorem pe_not (ha : PE X a ta) : PE X (.UnaryOp .Not a pos) (tNotV ta) := by
  intro pins s σ H Q I h
  refine UnaryOp_ (thn (ha pins s σ H _ I h) fun v s1 ⟨x, H1, I1, r1, q1⟩ => ?_)
  obtain ⟨c, rfl, q1⟩ := q1
  cases r1
  exact not_of (wpAny_truthy_bool ⟨.bl (!c), H1, I1, rfl, q1⟩)
def tIf (t : TT) (ta tb : TE) : TE := fun σ H Q => t σ H fun c H1 => if c = true then ta σ H1 Q else tb σ H1 Q
theorem pe_ifExp {c : Expr} (hc : PT X c tA) (ha : PE X a ta) (hb : PE X b tb) : PE X (.IfExp c a b pos) (tIf tA ta tb) := by
  intro pins s σ H Q I h
  refine wpAny_IfExp (thn (hc pins s σ H _ I h) fun d s1 ⟨H1, I1, q1⟩ => ?_)
  cases d with
  | true => exact ha pins s1 σ H1 Q I1 q1
  | false => exact hb pins s1 σ H1 Q I1 q1
end
end L2
namespace L2
open PySem PySem.Spec PyProof.Rows
def SqL (K : PySem.W.Frag) (H : Hp) (a : Addr) (xs : List V) : Prop :=
  Rd H a (.lst xs) \/
    ∃ (o : Obj) (its : Array Value) (n : Nat), K.lookup a = some o /\ o.cls = .type "list" /\ o.dict = none /\ o.data = .seq its n /\ its.size <= sizeLine /\ Vals xs its.toList
def SqT (K : PySem.W.Frag) (H : Hp) (a : Addr) (xs : List V) : Prop :=
  Rd H a (.tup xs) \/
    ∃ (o : Obj) (its : Array Value) (n : Nat), K.lookup a = some o /\ o.cls = .type "tuple" /\ o.data = .seq its n /\ its.size <= sizeLine /\ Vals xs its.toList
def absV : Value -> Option V
  | .none => some .non
  | .bool b => some (.bl b)
  | .int i _ => some (.int i)
  | .str x _ => some (.str x)
  | .bytes b _ => some (.byt b)
  | .float b _ => some (.flt b)
  | .ref a => some (.ref a)
  | .type n => some (.ty n)
  | _ => none
theorem RelV.abs {x : V} {u : Value} (r : RelV x u) : absV u = some x := by
  cases x with
  | non => cases r; rfl
  | bl _ => cases r; rfl
  | int _ => obtain ⟨t, rfl⟩ := r; rfl
  | str _ => obtain ⟨t, rfl⟩ := r; rfl
  | byt _ => obtain ⟨t, rfl⟩ := r; rfl
  | flt _ => obtain ⟨t, rfl⟩ := r; rfl
  | ref _ => cases r; rfl
  | ty _ => cases r; rfl
theorem RelV.inj {x y : V} {u : Value} (r : RelV x u) (q : RelV y u) : x = y := Option.some.inj (r.abs.symm.trans q.abs)
theorem Vals.inj : ∀ {xs ys : List V} {us : List Value}, Vals xs us -> Vals ys us -> xs = ys
  | _, _, _, .nil, .nil => rfl
  | _, _, _, .cons r t, .cons r' t' => by rw [r.inj r', Vals.inj t t']
section
variable {X : Cx} {pins : List (Addr × Obj)} {σ : St} {H : Hp} {s : Shared} {a : Addr} {xs ys : List V}
theorem SqL.of {K : PySem.W.Frag} (h : H a = some (.lst xs)) : SqL K H a xs := .inl (.inl h)
theorem SqT.of {K : PySem.W.Frag} (h : H a = some (.tup xs)) : SqT K H a xs := .inl (.inl h)
theorem Inv.list (I : Inv X pins σ H s) (h : SqL X.K H a xs) : ∃ its : List Value, Vals xs its /\ PlainL s.heap a its.toArray /\ xs.length <= sizeLine := by
  rcases h with h | ⟨o, its, n, hk, hc, hd, hs, hz, r⟩
  · obtain ⟨z, its, n, r, e⟩ := h.ok I.hok
    exact ⟨its, r, ⟨_, n, e, rfl, rfl, rfl⟩, z⟩
  · refine ⟨its.toList, r, ⟨o, n, I.kIn a o hk, hc, hd, by simpa using hs⟩, ?_⟩
    have e := r.length
    simp only [Array.length_toList] at e
    omega
theorem Inv.tuple (I : Inv X pins σ H s) (h : SqT X.K H a xs) : ∃ its : List Value, Vals xs its /\ IsTup s.heap a its.toArray /\ xs.length <= sizeLine := by
  rcases h with h | ⟨o, its, n, hk, hc, hs, hz, r⟩
  · obtain ⟨z, its, r, p⟩ := h.ok I.hok
    exact ⟨its, r, p, z⟩
  · refine ⟨its.toList, r, ⟨o, I.kIn a o hk, hc, n, by simpa using hs⟩, ?_⟩
    have e := r.length
    simp only [Array.length_toList] at e
    omega
theorem Inv.list_inj (I : Inv X pins σ H s) (h : SqL X.K H a xs) (h' : SqL X.K H a ys) : xs = ys := by
  obtain ⟨its, r, ⟨o, n, e, _, _, d⟩, _⟩ := I.list h
  obtain ⟨its', r', ⟨o', n', e', _, _, d'⟩, _⟩ := I.list h'
  rw [e] at e'; cases e'
  rw [d] at d'
  injection d' with d1 _
  have : its = its' := by simpa using congrArg Array.toList d1
  subst this
  exact r.inj r'
theorem Inv.tuple_inj (I : Inv X pins σ H s) (h : SqT X.K H a xs) (h' : SqT X.K H a ys) : xs = ys := by
  obtain ⟨its, r, ⟨o, e, _, n, d⟩, _⟩ := I.tuple h
  obtain ⟨its', r', ⟨o', e', _, n', d'⟩, _⟩ := I.tuple h'
  rw [e] at e'; cases e'
  rw [d] at d'
  injection d' with d1 _
  have : its = its' := by simpa using congrArg Array.toList d1
  subst this
  exact r.inj r'
end
abbrev Cx.wish (X : Cx) (E : Value -> Shared -> Prop) : Cx := { X with xe := E }
abbrev Cx.nox (X : Cx) : Cx := X.wish fun _ _ => False
theorem Cx.Ok.wish {X : Cx} (ok : X.Ok) (E : Value -> Shared -> Prop) : (X.wish E).Ok :=
  ⟨ok.mod, ok.kind, ok.glob, ok.blt, ok.above, ok.inj, ok.has, ok.cab, ok.hd, ok.frames, ok.stk, ok.exf, ok.bs, ok.bsz, ok.noex, ok.exfs, ok.funs, ok.frf⟩
theorem Cx.Ok.unwish {X : Cx} {E : Value -> Shared -> Prop} (ok : (X.wish E).Ok) : X.Ok :=
  ⟨ok.mod, ok.kind, ok.glob, ok.blt, ok.above, ok.inj, ok.has, ok.cab, ok.hd, ok.frames, ok.stk, ok.exf, ok.bs, ok.bsz, ok.noex, ok.exfs, ok.funs, ok.frf⟩
section
variable {X : Cx} {pins : List (Addr × Obj)} {σ : St} {H : Hp} {s : Shared} {E : Value -> Shared -> Prop}
theorem Inv.wish (I : Inv X pins σ H s) (E : Value -> Shared -> Prop) : Inv (X.wish E) pins σ H s := ⟨I.ok.wish E, I.os, I.bare, I.base, I.loc, I.cell, I.free, I.freeC, I.pin, I.hok, I.len⟩
theorem Inv.unwish (I : Inv (X.wish E) pins σ H s) : Inv X pins σ H s := ⟨I.ok.unwish, I.os, I.bare, I.base, I.loc, I.cell, I.free, I.freeC, I.pin, I.hok, I.len⟩
theorem SP.unwish {D : Ends} {f : Flow} {s' : Shared} (h : SP (X.wish E) pins D f s') : SP X pins D f s' := by
  cases f with
  | next => obtain ⟨σ', H', I, q⟩ := h; exact ⟨σ', H', I.unwish, q⟩
  | brk => obtain ⟨σ', H', I, q⟩ := h; exact ⟨σ', H', I.unwish, q⟩
  | cont => obtain ⟨σ', H', I, q⟩ := h; exact ⟨σ', H', I.unwish, q⟩
  | ret u => obtain ⟨v, σ', H', I, r, q⟩ := h; exact ⟨v, σ', H', I.unwish, r, q⟩
theorem PSs.nox {st : List Stmt} {t : TS} (h : PSs X.nox st t) : PSs X st t := fun pins s σ H D I hw =>
  wpAny_mono (h pins s σ H D (I.wish _) hw) (fun _ _ q => q.unwish) fun _ _ z => False.elim z
end
section
variable {X : Cx} {st : Stmt} {rest : List Stmt} {t u : TS} {e : Expr} {te : TE} {pos : Pos}
def tNext : TS := fun D σ H => D.nx σ H
def tSeq (t u : TS) : TS := fun D σ H => t { D with nx := u D } σ H
theorem pss_nil : PSs X [] tNext := fun _ _ σ H _ I h => wpAny_execs_nil ⟨σ, H, I, h⟩
theorem pss_cons (h1 : PS X st t) (h2 : PSs X rest u) : PSs X (st :: rest) (tSeq t u) := by
  intro pins s σ H D I h
  refine wpAny_execs_cons (thn (h1 pins s σ H { D with nx := u D } I h) fun f s1 q => ?_)
  cases f with
  | next =>
    obtain ⟨σ', H', I', q⟩ := q
    exact h2 pins s1 σ' H' D I' q
  | ret v => exact q
  | brk => exact q
  | cont => exact q
theorem pss_one (h1 : PS X st t) : PSs X [st] t := by
  intro pins s σ H D I h
  refine wpAny_execs_cons (thn (h1 pins s σ H D I h) fun f s1 q => ?_)
  cases f with
  | next => exact wpAny_execs_nil q
  | ret v => exact q
  | brk => exact q
  | cont => exact q
theorem Inv.quiet {pins : List (Addr × Obj)} {σ : St} {H : Hp} {s : Shared} (I : Inv X pins σ H s) : interactive X.env = false := by simp [interactive, I.ok.kind]
def tDrop (te : TE) : TS := fun D σ H => te σ H fun _ H1 => D.nx σ H1
theorem ps_expr (he : PE X e te) (hs : swapsWith e none pos.line X.env = pure false := by rfl) : PS X (.Expr e pos) (tDrop te) := by
  intro pins s σ H D I h
  exact wpAny_Expr_any (thn (he pins s σ H _ I h) fun v s1 ⟨x, H1, I1, r1, q1⟩ => ⟨σ, H1, I1, q1⟩) I.quiet hs
def tRet (te : TE) : TS := fun D σ H => te σ H D.rt
theorem ps_ret (he : PE X e te) : PS X (.Return (some e) pos) (tRet te) := by
  intro pins s σ H D I h
  exact wpAny_Return_some (thn (he pins s σ H _ I h) fun v s1 ⟨x, H1, I1, r1, q1⟩ => ⟨x, σ, H1, I1, r1, q1⟩)
def tIfS (c : TT) (t u : TS) : TS := fun D σ H => c σ H fun b H1 => if b = true then t D σ H1 else u D σ H1
theorem ps_if {c : Expr} {a b : List Stmt} {tc : TT} (hc : PT X c tc) (ha : PSs X a t) (hb : PSs X b u) : PS X (.If c a b pos) (tIfS tc t u) := by
  intro pins s σ H D I h
  refine wpAny_If (thn (hc pins s σ H _ I h) fun d s1 ⟨H1, I1, q1⟩ => ?_)
  cases d with
  | true => exact ha pins s1 σ H1 D I1 q1
  | false => exact hb pins s1 σ H1 D I1 q1
def tNever : TS := fun _ _ _ => False
theorem ps_never : PS X st tNever := fun _ _ _ _ _ _ h => h.elim
theorem pss_never {sts : List Stmt} : PSs X sts tNever := fun _ _ _ _ _ _ h => h.elim
end
abbrev TG := V -> St -> Hp -> (St -> Hp -> Prop) -> Prop
abbrev TGs := List V -> St -> Hp -> (St -> Hp -> Prop) -> Prop
def PG (X : Cx) (target : Expr) (t : TG) : Prop :=
  ∀ (pins : List (Addr × Obj)) (s : Shared) (σ : St) (H : Hp) (v : V) (u : Value) (Q : St -> Hp -> Prop), Inv X pins σ H s -> RelV v u -> t v σ H Q ->
    wpAny (model X.prog X.w) X.A (assign target X.env u) (fun _ s' => ∃ σ' H', Inv X pins σ' H' s' /\ Q σ' H') X.xe s
def PGs (X : Cx) (ts : List Expr) (t : TGs) : Prop :=
  ∀ (pins : List (Addr × Obj)) (s : Shared) (σ : St) (H : Hp) (vs : List V) (us : List Value) (Q : St -> Hp -> Prop), Inv X pins σ H s -> Vals vs us -> t vs σ H Q ->
    wpAny (model X.prog X.w) X.A (assignInOrder ((assignEach ts X.env).map (·.2)) us) (fun _ s' => ∃ σ' H', Inv X pins σ' H' s' /\ Q σ' H') X.xe s
abbrev TSet := V -> V -> V -> Hp -> (Hp -> Prop) -> Prop
def PSet (X : Cx) (t : TSet) : Prop :=
  ∀ (pins : List (Addr × Obj)) (s : Shared) (σ : St) (H : Hp) (o i v : V) (ov iv u : Value) (Q : Hp -> Prop), Inv X pins σ H s -> RelV o ov -> RelV i iv -> RelV v u -> t o i v H Q ->
    wpAny (model X.prog X.w) X.A (setItem ov iv u) (fun _ s' => ∃ H', Inv X pins σ H' s' /\ Q H') X.xe s
abbrev TIp := V -> V -> Hp -> VK -> Prop
def PIp (X : Cx) (op : Operator) (t : TIp) : Prop :=
  ∀ (pins : List (Addr × Obj)) (s : Shared) (σ : St) (H : Hp) (x y : V) (v u : Value) (Q : VK), Inv X pins σ H s -> RelV x v -> RelV y u -> t x y H Q ->
    wpAny (model X.prog X.w) X.A (inplaceOp op v u) (EP X pins σ Q) X.xe s
section
variable {X : Cx} {pos : Pos}
def gName (i : Nat) : TG := fun v σ H Q => Q (σ.set i (some v)) H
theorem pg_name {i : Nat} {x : Str} (hN : X.N.Nodup) (hi : X.N[i]? = some x) (hx : Loc X.env.scope x) (hf : X.fn x = true \/ X.env.scope.names.lookup x = some .local := by first | exact .inl rfl | exact .inr rfl | assumption) : PG X (.Name x pos) (gName i) := by
  intro pins s σ H v u Q I r h
  exact wpAny_assign_Name (store_ok I hN hi hx r (fun s' I' => ⟨_, H, I', h⟩) hf)
def gNil : TGs := fun vs σ H Q => vs = [] /\ Q σ H
def gCons (t : TG) (u : TGs) : TGs := fun vs σ H Q => ∃ v r, vs = v :: r /\ t v σ H fun σ' H' => u r σ' H' Q
theorem pgs_nil : PGs X [] gNil := by
  intro pins s σ H vs us Q I r h
  obtain ⟨e, h⟩ := h
  subst e
  cases r
  exact assignInOrder_nil ⟨σ, H, I, h⟩
theorem pgs_cons {e : Expr} {es : List Expr} {t : TG} {u : TGs} (h1 : PG X e t) (h2 : PGs X es u)
    (hs : (assignEach (e :: es) X.env).map (·.2) = assign e X.env :: (assignEach es X.env).map (·.2) := by rfl) : PGs X (e :: es) (gCons t u) := by
  intro pins s σ H vs us Q I r h
  obtain ⟨v, vr, e1, h⟩ := h
  subst e1
  cases r with
  | cons r rr =>
    rw [hs]
    refine assignInOrder_cons (thn (h1 pins s σ H _ _ _ I r h) fun _ s1 ⟨σ1, H1, I1, q1⟩ => ?_)
    exact h2 pins s1 σ1 H1 _ _ Q I1 rr q1
def gTup (K : PySem.W.Frag) (n : Nat) (t : TGs) : TG := fun v σ H Q => ∃ a xs, v = .ref a /\ SqT K H a xs /\ xs.length = n /\ t xs σ H Q
theorem pg_tup {es : List Expr} {k : Nat} {t : TGs} {n : Nat} (hc : X.calm = true) (h : PGs X es t)
    (hn : (assignEach es X.env).length = n := by rfl) (hst : (assignEach es X.env).findIdx? (·.1) = none := by rfl) : PG X (.Tuple es k pos) (gTup X.K n t) := by
  intro pins s σ H v u Q I r hw
  obtain ⟨a, xs, e1, hq, hl, hw⟩ := hw
  subst e1
  cases r
  obtain ⟨its, rv, ht, hz⟩ := I.tuple hq
  refine assign_Tuple_tuple (I.ok.hd hc) ht (by simp [hn, <- hl, rv.length]) hst fun h' hx => ?_
  have I1 : Inv X pins σ H { s with heap := h' } := I.kept (t' := s.toks) fun b o e => hx b o (Nat.ne_of_lt (Heap.lt_size e)) e
  exact h pins _ σ H xs _ Q I1 (by simpa using rv) hw
def tAsg (te : TE) (g : TG) : TS := fun D σ H => te σ H fun x H1 => g x σ H1 D.nx
theorem ps_set {i : Nat} {x : Str} {e : Expr} {te : TE} {pos' : Pos} (hN : X.N.Nodup) (hi : X.N[i]? = some x) (hx : Loc X.env.scope x) (he : PE X e te) (hs : swapsWith e (some (.Name x pos')) pos.line X.env = pure false := by rfl) (hf : X.fn x = true \/ X.env.scope.names.lookup x = some .local := by first | exact .inl rfl | exact .inr rfl | assumption) :
    PS X (.Assign [.Name x pos'] e pos) (tAsg te (gName i)) := by
  intro pins s σ H D I h
  refine wpAny_Assign_Name (thn (he pins s σ H _ I h) fun v s1 ⟨y, H1, I1, r1, q1⟩ => ?_) hs
  exact store_ok I1 hN hi hx r1 (fun s2 I2 => ⟨_, H1, I2, q1⟩) hf
def tAugS (to ti te : TE) (tget : V -> V -> Hp -> VK -> Prop) (tip : TIp) (tset : TSet) : TS := fun D σ H => to σ H fun o H1 => ti σ H1 fun i H2 => tget o i H2 fun x H3 => te σ H3 fun y H4 => tip x y H4 fun z H5 => tset o i z H5 fun H6 => D.nx σ H6
def PGet (X : Cx) (t : V -> V -> Hp -> VK -> Prop) : Prop :=
  ∀ (pins : List (Addr × Obj)) (s : Shared) (σ : St) (H : Hp) (o i : V) (ov iv : Value) (Q : VK), Inv X pins σ H s -> RelV o ov -> RelV i iv -> t o i H Q ->
    wpAny (model X.prog X.w) X.A (getItem ov iv) (EP X pins σ Q) X.xe s
theorem ps_augS {o i e : Expr} {to ti te : TE} {tget : V -> V -> Hp -> VK -> Prop} {tip : TIp} {tset : TSet} {op : Operator} {tpos : Pos} (ho : PE X o to) (hi : PE X i ti) (hg : PGet X tget) (he : PE X e te) (hp : PIp X op tip) (hs : PSet X tset)
    (ha : ∀ ov iv new, augStore i ov iv new = (do holding [new, ov, iv] (setItem ov iv new); release [new, ov, iv] []; pure .next) := by intros; rfl) : PS X (.AugAssign (.Subscript o i tpos) op e pos) (tAugS to ti te tget tip tset) := by
  intro pins s σ H D I h
  refine wpAny_AugAssign_SubscriptAny (thn (ho pins s σ H _ I h) fun ov s1 ⟨x1, H1, I1, r1, q1⟩ => ?_) ha
  refine thn (hi pins s1 σ H1 _ I1 q1) fun iv s2 ⟨x2, H2, I2, r2, q2⟩ => ?_
  refine thn (hg pins s2 σ H2 x1 x2 ov iv _ I2 r1 r2 q2) fun old s3 ⟨x3, H3, I3, r3, q3⟩ => ?_
  refine thn (he pins s3 σ H3 _ I3 q3) fun v s4 ⟨x4, H4, I4, r4, q4⟩ => ?_
  refine thn (hp pins s4 σ H4 x3 x4 old v _ I4 r3 r4 q4) fun new s5 ⟨x5, H5, I5, r5, q5⟩ => ?_
  exact thn (hs pins s5 σ H5 x1 x2 x5 ov iv new _ I5 r1 r2 r5 q5) fun _ s6 ⟨H6, I6, q6⟩ => ⟨σ, H6, I6, q6⟩
def ipI (f : Int -> Int -> Int) : TIp := fun x y H Q => ∃ i j, x = .int i /\ y = .int j /\ Q (.int (f i j)) H
theorem ip_add : PIp X .Add (ipI fun i j => i + j) := by
  intro pins s σ H x y v u Q I r1 r2 h
  obtain ⟨i, j, e1, e2, q⟩ := h
  subst e1; subst e2
  obtain ⟨t, rfl⟩ := r1
  obtain ⟨t', rfl⟩ := r2
  exact iadd_int ⟨.int _, H, I.tok _, ⟨_, rfl⟩, q⟩
end
section
variable {X : Cx} {pos : Pos}
def tWhile (c : TT) (tb : TS) : TS := fun D σ H => ∃ W : Nat -> St -> Hp -> Prop, (∃ m, W m σ H) /\ ∀ m σ H, W m σ H ->
  c σ H fun b H1 => if b = true then ∃ N : St -> Hp -> Prop, (∀ σ' H', N σ' H' -> ∃ m', m' < m /\ W m' σ' H') /\ tb { D with nx := N, ct := N, bk := D.nx } σ H1 else D.nx σ H1
theorem ps_while {c : Expr} {body : List Stmt} {tc : TT} {tb : TS} (hp : PassesOwn (model X.prog X.w) X.A X.env X.xe) (hc : PT X c tc) (hb : PSs X body tb) : PS X (.While c body [] pos) (tWhile tc tb) := by
  intro pins s σ H D I h
  obtain ⟨W, ⟨m0, w0⟩, turn⟩ := h
  refine wpAny_While (codeAny_whileLoop (fun n s' => ∃ σ' H', Inv X pins σ' H' s' /\ W n σ' H') ?_ m0 ⟨σ, H, I, w0⟩)
  rintro n s1 ⟨σ1, H1, I1, w1⟩
  refine wpAny_passesOwn hp (thn (hc pins s1 σ1 H1 _ I1 (turn n σ1 H1 w1)) fun b s2 ⟨H2, I2, q2⟩ => ?_)
  cases b with
  | true =>
    obtain ⟨N, hN, q2⟩ := q2
    rw [if_pos rfl]
    refine wpAny_passesOwn hp (thn (hb pins s2 σ1 H2 _ I2 q2) fun f s3 q3 => ?_)
    cases f with
    | next =>
      obtain ⟨σ3, H3, I3, n3⟩ := q3
      obtain ⟨m', hm, w3⟩ := hN σ3 H3 n3
      exact ⟨m', hm, σ3, H3, I3, w3⟩
    | cont =>
      obtain ⟨σ3, H3, I3, n3⟩ := q3
      obtain ⟨m', hm, w3⟩ := hN σ3 H3 n3
      exact ⟨m', hm, σ3, H3, I3, w3⟩
    | brk => exact q3
    | ret v => exact q3
  | false =>
    rw [if_neg Bool.false_ne_true]
    exact wpAny_execs_nil ⟨σ1, H2, I2, q2⟩
end
structure It where
  go : Nat -> Hp -> Prop
  yld : Nat -> Hp -> V -> Hp -> Prop
  stop : Nat -> Hp -> Prop
def FpOk (X : Cx) (pins : List (Addr × Obj)) (H : Hp) (b : Addr) : Prop :=
  H b = none /\ b ≠ X.env.locals /\ b ∉ X.fs /\ (b ∈ X.ex \/ X.s₀.heap.objs.size <= b) /\ (∀ x c, X.env.cells.lookup x = some c -> c ≠ b) /\ ∀ p ∈ X.pn ++ pins, p.1 ≠ b
theorem Inv.fpOk {X : Cx} {pins : List (Addr × Obj)} {σ : St} {H H' : Hp} {s : Shared} {b : Addr} (I : Inv X pins σ H s) (hb : s.heap.objs.size <= b) (hn : H' b = none) : FpOk X pins H' b := by
  refine ⟨hn, Nat.ne_of_gt (Nat.lt_of_lt_of_le I.lt hb), I.nofs hb, .inr (Nat.le_trans I.sz hb), fun x c e z => ?_, fun p hp z => ?_⟩
  · obtain ⟨v, q⟩ := I.cell x c e
    exact absurd (Nat.lt_of_lt_of_le q.lt (by rw [z]; exact hb)) (Nat.lt_irrefl _)
  · exact absurd (Nat.lt_of_lt_of_le (Heap.lt_size (I.pin p hp).1) (by rw [z]; exact hb)) (Nat.lt_irrefl _)
structure Turn (P : Program) (w : World) (K : PySem.W.Frag) (tg : Expr) (J : It) (fp : List Addr) (it : Addr) (tn : Nat -> Heap -> Prop) : Prop where
  mem : it ∈ fp
  obj : ∀ i h, tn i h -> ∀ b ∈ fp, ∃ o, h.get? b = some o /\ ∀ v, o.data ≠ .cell v
  keep : ∀ i h h', tn i h -> (∀ b ∈ fp, ∀ o, h.get? b = some o -> h'.get? b = some o) -> tn i h'
  item : ∀ (X : Cx), X.prog = P -> X.w = w -> X.K = K -> X.calm = true -> ∀ (i : Nat) (pins : List (Addr × Obj)) (s : Shared) (σ : St) (H : Hp) (E : Value -> Shared -> Prop), Inv X pins σ H s -> (∀ b ∈ fp, FpOk X pins H b) -> tn i s.heap -> J.go i H ->
    wpAny (model P w) X.A (pyNext (.ref it)) (fun r s1 => ∃ u, r = some u /\
      wpAny (model P w) X.A (letOwnedTupleGo tg (.ref it) u) (fun _ s2 => ∃ x H', Inv X pins σ H' s2 /\ RelV x u /\ J.yld i H x H' /\ tn (i + 1) s2.heap /\ ∀ b ∈ fp, H' b = none) E s1) E s
  done : ∀ (X : Cx), X.prog = P -> X.w = w -> X.K = K -> X.calm = true -> ∀ (i : Nat) (pins : List (Addr × Obj)) (s : Shared) (σ : St) (H : Hp) (E : Value -> Shared -> Prop), Inv X pins σ H s -> (∀ b ∈ fp, FpOk X pins H b) -> tn i s.heap -> J.stop i H ->
    wpAny (model P w) X.A (pyNext (.ref it)) (fun r s1 => r = none /\ Inv X pins σ H s1) E s
  self : ∀ (A : Around) (i : Nat) (s : Shared) (Q : Value -> Shared -> Prop) (E : Value -> Shared -> Prop), tn i s.heap -> Q (.ref it) s -> wpAny (model P w) A (pyIter (.ref it)) Q E s
abbrev TI := St -> Hp -> (It -> Hp -> Prop) -> Prop
def PIE (X : Cx) (pins : List (Addr × Obj)) (σ : St) (tg : Expr) (R : It -> Hp -> Prop) (itv : Value) (s2 : Shared) : Prop :=
  ∃ (it : Addr) (fp : List Addr) (tn : Nat -> Heap -> Prop) (J : It) (H' : Hp), itv = .ref it /\ Inv X pins σ H' s2 /\ Turn X.prog X.w X.K tg J fp it tn /\ tn 0 s2.heap /\ (∀ b ∈ fp, FpOk X pins H' b) /\ R J H'
def PI (X : Cx) (tg iter : Expr) (wi : TI) : Prop :=
  ∀ (pins : List (Addr × Obj)) (s : Shared) (σ : St) (H : Hp) (R : It -> Hp -> Prop), Inv X pins σ H s -> wi σ H R ->
    wpAny (model X.prog X.w) X.A (eval iter X.env) (fun v s1 => wpAny (model X.prog X.w) X.A (pyIter v) (PIE X pins σ tg R) X.xe s1) X.xe s
theorem go_of {M : Model} {A : Around} {E : Value -> Shared -> Prop} {s : Shared} {tg : Expr} {it : Addr} {u : Value} {o : Obj} {n : String} {vs : Array Value} {Q : Unit -> Shared -> Prop} (ho : s.heap.get? it = some o) (hc : o.cls = .type n) (hd : o.data = .fields vs)
    (hn : ["enumerate", "zip", "dict_itemiterator", "dict_reverseitemiterator", "odict_iterator", "itertools.zip_longest", "itertools.pairwise"].contains n = false) (hQ : Q () s) : wpAny M A (letOwnedTupleGo tg (.ref it) u) Q E s := by
  unfold letOwnedTupleGo
  cases tg <;> first
    | exact wpAny_pure hQ
    | (cases u <;> first
        | exact wpAny_pure hQ
        | (refine wpAny_bind (wpAny_load ho ?_)
           rw [hc, hd]
           show wpAny M A (if (["enumerate", "zip", "dict_itemiterator", "dict_reverseitemiterator", "odict_iterator", "itertools.zip_longest", "itertools.pairwise"].contains n && vs[0]? == some (rawInt _)) = true then _ else _) Q E s
           rw [if_neg (by intro h; rw [hn, Bool.false_and] at h; cases h)]
           exact wpAny_pure hQ))
def Itl (K : PySem.W.Frag) (a : Addr) : It :=
  ⟨fun i H => ∃ xs x, SqL K H a xs /\ xs[i]? = some x, fun i H x H' => H' = H /\ ∀ xs, SqL K H a xs -> xs[i]? = some x, fun i H => ∃ xs, SqL K H a xs /\ xs.length <= i⟩
def Itr (lo : Int) (n : Nat) : It := ⟨fun i _ => i < n, fun i H x H' => H' = H /\ x = .int (lo + i), fun i _ => n <= i⟩
theorem turn_list {P : Program} {w : World} {K : PySem.W.Frag} {tg : Expr} (a it : Addr) : Turn P w K tg (Itl K a) [it] it (fun i h => h.IsListIter it a i) where
  mem := by simp
  obj := fun i h st b hb => by
    have e : b = it := by simpa using hb
    subst e
    obtain ⟨o, e, c, d⟩ := st
    exact ⟨o, e, fun v z => by rw [d] at z; cases z⟩
  keep := fun i h h' st k => st.at fun o e => k it (by simp) o e
  item := by
    intro X hP hw hK hc i pins s σ H E I hf st hg
    subst hP hw hK
    obtain ⟨xs, x, hq, hx⟩ := hg
    obtain ⟨its, rv, p, hz⟩ := I.list hq
    obtain ⟨u, hu, ru⟩ := rv.get hx
    obtain ⟨f0, f1, f2, f3, f4, f5⟩ := hf it (by simp)
    refine wpAny_pyNext_list_item st p.isList (x := u) (by simpa using hu) fun h' st' sb => ?_
    have I1 : Inv X pins σ H { s with heap := h' } := I.turned (t' := s.toks) (fun b o hb e => (sb.2 b hb).trans e) f0 f1 f3 f4 f5
    obtain ⟨o, e, c, d⟩ := id st'
    exact ⟨u, rfl, go_of (s := { s with heap := h' }) e c d (by decide) ⟨x, H, I1, ru, ⟨rfl, fun ys hy => by rw [I.list_inj hy hq]; exact hx⟩, st', fun b hb => (hf b hb).1⟩⟩
  done := by
    intro X hP hw hK hc i pins s σ H E I hf st hg
    subst hP hw hK
    obtain ⟨xs, hq, hx⟩ := hg
    obtain ⟨its, rv, p, hz⟩ := I.list hq
    obtain ⟨f0, f1, f2, f3, f4, f5⟩ := hf it (by simp)
    have hl := rv.length
    exact wpAny_pyNext_list_end (I.ok.hd hc) st p.isList (by simp; omega) fun h' eb => ⟨rfl, I.turned (t' := s.toks) (fun b o hb e => eb b o hb e) f0 f1 f3 f4 f5⟩
  self := fun _ _ _ _ _ st h => wpAny_pyIter_listiter st h
theorem turn_range {P : Program} {w : World} {K : PySem.W.Frag} {tg : Expr} (it : Addr) (lo : Int) (n : Nat) : Turn P w K tg (Itr lo n) [it] it (fun i h => IsRangeIter h it (lo + (i : Nat) * 1) ((n : Int) - (i : Nat)) 1) where
  mem := by simp
  obj := fun i h st b hb => by
    have e : b = it := by simpa using hb
    subst e
    exact ⟨_, st, fun v z => by
      have z' : Data.fields _ = Data.cell v := z
      cases z'⟩
  keep := fun i h h' st k => k it (by simp) _ st
  item := by
    intro X hP hw hK hc i pins s σ H E I hf st hg
    subst hP hw hK
    obtain ⟨f0, f1, f2, f3, f4, f5⟩ := hf it (by simp)
    have W := Walks.range (prog := X.prog) (w := X.w) (I.ok.hd hc) it lo 1 n
    refine W.item i s _ _ hg st fun v h' tk hv st' kk => ?_
    obtain ⟨t, rfl⟩ := hv
    have I1 : Inv X pins σ H { s with heap := h', toks := tk } := I.turned (fun b o hb e => kk b o (by simpa using hb) e) f0 f1 f3 f4 f5
    refine ⟨_, rfl, go_of (s := { s with heap := h', toks := tk }) (n := "range_iterator") st' rfl rfl (by decide) ⟨.int (lo + i), H, I1, ⟨t, ?_⟩, ⟨rfl, rfl⟩, st', fun b hb => (hf b hb).1⟩⟩
    rw [Int.mul_one]
  done := by
    intro X hP hw hK hc i pins s σ H E I hf st hg
    subst hP hw hK
    obtain ⟨f0, f1, f2, f3, f4, f5⟩ := hf it (by simp)
    exact wpAny_pyNext_range_end (I.ok.hd hc) st (by have : n <= i := hg; omega) fun h' eb => ⟨rfl, I.turned (t' := s.toks) (fun b o hb e => eb b o hb e) f0 f1 f3 f4 f5⟩
  self := fun _ _ _ _ _ st h => wpAny_pyIter_rangeiter st h
end L2
namespace L2
open PySem PySem.Spec PyProof.Rows
section
variable {X : Cx} {tg : Expr}
def iList (K : PySem.W.Frag) (tl : TE) : TI := fun σ H R => tl σ H fun x H1 => ∃ a, x = .ref a /\ (∃ xs, SqL K H1 a xs) /\ R (Itl K a) H1
theorem pi_list {l : Expr} {tl : TE} (hl : PE X l tl) : PI X tg l (iList X.K tl) := by
  intro pins s σ H R I h
  refine thn (hl pins s σ H _ I h) fun v s1 ⟨x, H1, I1, r1, q1⟩ => ?_
  obtain ⟨a, e, ⟨xs, hq⟩, q⟩ := q1
  subst e
  cases r1
  obtain ⟨its, rv, p, hz⟩ := I1.list hq
  refine wpAny_pyIter_list p.isList ?_
  refine ⟨s1.heap.objs.size, [s1.heap.objs.size], _, _, H1, rfl, I1.kept (t' := s1.toks) fun b o e => Heap.get?_push_of_some _ e, turn_list a _, ⟨_, Heap.get?_push_size _ rfl, rfl, rfl⟩, fun b hb => ?_, q⟩
  have e : b = s1.heap.objs.size := by simpa using hb
  subst e
  exact I1.fpOk (Nat.le_refl _) (I1.hok.fresh (Nat.le_refl _))
theorem range_it {pins : List (Addr × Obj)} {σ : St} {H : Hp} {s : Shared} {R : It -> Hp -> Prop} {E : Value -> Shared -> Prop} {lo hi : Int} {t u v : Tok} {tk : Nat} (I : Inv X pins σ H s) (h1 : -(2 ^ 62) <= lo) (h2 : lo < 2 ^ 62) (h3 : -(2 ^ 62) <= hi) (h4 : hi < 2 ^ 62)
    (q : R (Itr lo (hi - lo).toNat) H) : wpAny (model X.prog X.w) X.A (pyIter (.ref s.heap.objs.size)) (PIE X pins σ tg R) E { s with heap := s.heap.push { cls := .type "range", data := .fields #[.int lo t, .int hi u, .int 1 v] }, toks := tk } := by
  refine wpAny_pyIter_range (IsRange.new ..) (small_one h1 h2 h3 h4) ?_
  have I1 : Inv X pins σ H { s with heap := s.heap.push { cls := .type "range", data := .fields #[.int lo t, .int hi u, .int 1 v] }, toks := tk } := I.kept fun b o e => Heap.get?_push_of_some _ e
  refine ⟨(s.heap.push { cls := .type "range", data := .fields #[.int lo t, .int hi u, .int 1 v] }).objs.size, [(s.heap.push { cls := .type "range", data := .fields #[.int lo t, .int hi u, .int 1 v] }).objs.size], _, _, H, rfl,
    I1.kept (t' := tk) fun b o e => Heap.get?_push_of_some _ e, turn_range _ lo (hi - lo).toNat, ?_, fun b hb => ?_, q⟩
  · have e1 : lo + ((0 : Nat) : Int) * 1 = lo := by simp
    have e2 : (((hi - lo).toNat : Nat) : Int) - ((0 : Nat) : Int) = Builtin.Range.rangeSize lo hi 1 := by rw [rangeSize_one]; split <;> omega
    show IsRangeIter _ _ (lo + ((0 : Nat) : Int) * 1) ((((hi - lo).toNat : Nat) : Int) - ((0 : Nat) : Int)) 1
    rw [e1, e2]
    exact Heap.get?_push_size _ rfl
  · have e : b = (s.heap.push { cls := .type "range", data := .fields #[.int lo t, .int hi u, .int 1 v] }).objs.size := by simpa using hb
    subst e
    exact I1.fpOk (Nat.le_refl _) (I1.hok.fresh (Nat.le_refl _))
def iRng1 (ta : TA) : TI := fun σ H R => ta σ H fun vs H1 => ∃ j : Int, vs = [.int j] /\ -(2 ^ 62) <= j /\ j < 2 ^ 62 /\ R (Itr 0 j.toNat) H1
theorem pi_range1 {a : Expr} {ta : TA} {p pos : Pos} (hg : Gl X "range") (hm : X.mg "range" = none) (ha : PA X [a] ta) (hs : starEach [a] X.env = [(false, eval a X.env)] := by rfl) : PI X tg (.Call (.Name "range" p) [a] [] pos) (iRng1 ta) := by
  intro pins s σ H R I h
  refine Call_ (ld_blt I hg hm boot_range (PyProof.Rows.callWith_type1 (thn (ha pos pins s σ H _ I h) fun us s1 ⟨vs, H1, I1, r1, q1⟩ => ?_) hs rfl))
  obtain ⟨j, e, q1, q2, q⟩ := q1
  subst e
  cases r1 with
  | cons r rr =>
    cases rr
    obtain ⟨t, rfl⟩ := r
    exact call_range_1 (range_it I1 (by omega) (by omega) q1 q2 (by simpa using q))
def tFor (wi : TI) (g : TG) (tb : TS) : TS := fun D σ H => wi σ H fun J H1 => ∃ W : Nat -> Nat -> St -> Hp -> Prop, (∃ m, W 0 m σ H1) /\ ∀ i m σ H, W i m σ H ->
  (J.stop i H /\ D.nx σ H) \/ (J.go i H /\ ∃ N : St -> Hp -> Prop, (∀ σ' H', N σ' H' -> ∃ m', m' < m /\ W (i + 1) m' σ' H') /\ ∀ x H', J.yld i H x H' -> g x σ H' fun σ2 H2 => tb { D with nx := N, ct := N, bk := D.nx } σ2 H2)
def pinsAt (fp : List Addr) (h : Heap) : List (Addr × Obj) := fp.filterMap fun b => (h.get? b).map fun o => (b, o)
theorem mem_pinsAt {fp : List Addr} {h : Heap} {b : Addr} {o : Obj} (hb : b ∈ fp) (e : h.get? b = some o) : (b, o) ∈ pinsAt fp h := List.mem_filterMap.mpr ⟨b, hb, by rw [e]; rfl⟩
theorem of_pinsAt {fp : List Addr} {h : Heap} {p : Addr × Obj} (hp : p ∈ pinsAt fp h) : p.1 ∈ fp /\ h.get? p.1 = some p.2 := by
  obtain ⟨b, hb, e⟩ := List.mem_filterMap.mp hp
  cases q : h.get? b with
  | none => rw [q] at e; cases e
  | some o =>
    rw [q] at e
    have e' : (b, o) = p := Option.some.inj e
    subst e'
    exact ⟨hb, q⟩
theorem Inv.pinned {pins : List (Addr × Obj)} {σ : St} {H : Hp} {s : Shared} {fp : List Addr} (I : Inv X pins σ H s) (hf : ∀ b ∈ fp, FpOk X pins H b) (ho : ∀ b ∈ fp, ∃ o, s.heap.get? b = some o /\ ∀ v, o.data ≠ .cell v) : Inv X (pins ++ pinsAt fp s.heap) σ H s :=
  I.pins_of fun p hp => (List.mem_append.mp hp).elim (fun z => I.pin p (List.mem_append_right _ z)) fun z => by
    obtain ⟨hb, e⟩ := of_pinsAt z
    obtain ⟨f0, f1, f2, _⟩ := hf p.1 hb
    obtain ⟨o, e', d⟩ := ho p.1 hb
    rw [e] at e'; cases e'
    exact ⟨e, f0, f1, f2, d⟩
theorem Inv.unpinned {pins pl : List (Addr × Obj)} {σ : St} {H : Hp} {s : Shared} (I : Inv X (pins ++ pl) σ H s) : Inv X pins σ H s := I.pins_of fun p hp => I.pin p (List.mem_append_right _ (List.mem_append_left _ hp))
theorem ps_for {iter : Expr} {body : List Stmt} {wi : TI} {g : TG} {tb : TS} {pos : Pos} (hp : PassesOwn (model X.prog X.w) X.A X.env X.xe) (hc : X.calm = true) (hi : PI X tg iter wi) (hg : PG X tg g) (hb : PSs X body tb)
    (hs : ∀ x, foldedSetIterable iter X.env x = pure x := by intro _; rfl) : PS X (.For tg iter body [] pos) (tFor wi g tb) := by
  intro pins s σ H D I h
  refine wpAny_For (thn (hi pins s σ H _ I h) fun v s1 h1 => thn h1 fun itv s2 h2 => ?_) hs
  obtain ⟨it, fp, tn, J, H2, e, I2, T, st2, f2, W, ⟨m0, w0⟩, turn⟩ := h2
  subst e
  have stat : ∀ {H' : Hp}, (∀ b ∈ fp, H' b = none) -> ∀ b ∈ fp, FpOk X pins H' b := fun hn b hb => ⟨hn b hb, (f2 b hb).2⟩
  refine codeAny_forLoop_any (fun n s' => ∃ i σ' H', Inv X pins σ' H' s' /\ tn i s'.heap /\ (∀ b ∈ fp, H' b = none) /\ W i n σ' H') ?_ m0 ⟨0, σ, H2, I2, st2, fun b hb => (f2 b hb).1, w0⟩
  rintro n s3 ⟨i, σ3, H3, I3, st3, fr3, w3⟩
  rcases turn i n σ3 H3 w3 with ⟨stop, qn⟩ | ⟨go, N, hN, step⟩
  · refine wpAny_passesOwn hp (thn (T.done X rfl rfl rfl hc i pins s3 σ3 H3 X.xe I3 (stat fr3) st3 stop) fun r s4 ⟨hr, I4⟩ => ?_)
    subst hr
    exact wpAny_execs_nil ⟨σ3, H3, I4, qn⟩
  · refine wpAny_passesOwn hp (thn (T.item X rfl rfl rfl hc i pins s3 σ3 H3 X.xe I3 (stat fr3) st3 go) fun r s4 ⟨u, hr, h4⟩ => ?_)
    subst hr
    refine wpAny_passesOwn hp (thn h4 fun _ s5 ⟨x, H5, I5, r5, y5, st5, fr5⟩ => ?_)
    have I5' := I5.pinned (stat fr5) (T.obj _ _ st5)
    refine wpAny_passesOwn hp (thn (hg _ s5 σ3 H5 x u _ I5' r5 (step x H5 y5)) fun _ s6 ⟨σ6, H6, I6, q6⟩ => ?_)
    refine wpAny_passesOwn hp (thn (hb _ s6 σ6 H6 _ I6 q6) fun f s7 q7 => ?_)
    have again : ∀ {σ7 : St} {H7 : Hp}, Inv X (pins ++ pinsAt fp s5.heap) σ7 H7 s7 -> N σ7 H7 -> ∃ m, m < n /\ ∃ i σ' H', Inv X pins σ' H' s7 /\ tn i s7.heap /\ (∀ b ∈ fp, H' b = none) /\ W i m σ' H' := fun {σ7 H7} I7 n7 => by
      obtain ⟨m', hm, w7⟩ := hN σ7 H7 n7
      refine ⟨m', hm, i + 1, σ7, H7, I7.unpinned, T.keep _ _ _ st5 fun b hb o e => (I7.pin (b, o) (List.mem_append_right _ (List.mem_append_right _ (mem_pinsAt hb e)))).1, fun b hb => ?_, w7⟩
      obtain ⟨o, e, d⟩ := T.obj _ _ st5 b hb
      exact (I7.pin (b, o) (List.mem_append_right _ (List.mem_append_right _ (mem_pinsAt hb e)))).2.1
    cases f with
    | next => obtain ⟨σ7, H7, I7, n7⟩ := q7; exact again I7 n7
    | cont => obtain ⟨σ7, H7, I7, n7⟩ := q7; exact again I7 n7
    | brk => obtain ⟨σ7, H7, I7, q7⟩ := q7; exact ⟨σ7, H7, I7.unpinned, q7⟩
    | ret v => obtain ⟨x7, σ7, H7, I7, r7, q7⟩ := q7; exact ⟨x7, σ7, H7, I7.unpinned, r7, q7⟩
end
theorem for_list {K : PySem.W.Frag} {a : Addr} {xs : List V} {g : TG} {tb : TS} {D : Ends} {σ : St} {H : Hp} (Pv : Nat -> St -> Hp -> Prop) (h0 : Pv 0 σ H) (hl : ∀ i σ H, i <= xs.length -> Pv i σ H -> SqL K H a xs)
    (hs : ∀ i x σ H, xs[i]? = some x -> Pv i σ H -> g x σ H fun σ2 H2 => tb { D with nx := Pv (i + 1), ct := Pv (i + 1), bk := D.nx } σ2 H2) (hd : ∀ σ H, Pv xs.length σ H -> D.nx σ H) :
    ∃ W : Nat -> Nat -> St -> Hp -> Prop, (∃ m, W 0 m σ H) /\ ∀ i m σ H, W i m σ H ->
      ((Itl K a).stop i H /\ D.nx σ H) \/ ((Itl K a).go i H /\ ∃ N : St -> Hp -> Prop, (∀ σ' H', N σ' H' -> ∃ m', m' < m /\ W (i + 1) m' σ' H') /\ ∀ x H', (Itl K a).yld i H x H' -> g x σ H' fun σ2 H2 => tb { D with nx := N, ct := N, bk := D.nx } σ2 H2) := by
  refine ⟨fun i m σ H => m = xs.length - i /\ i <= xs.length /\ Pv i σ H, ⟨xs.length, by simp, Nat.zero_le _, h0⟩, ?_⟩
  rintro i m σ H ⟨rfl, hi, p⟩
  have q := hl i σ H hi p
  by_cases hlt : i < xs.length
  · refine .inr ⟨⟨xs, xs[i], q, by simp [hlt]⟩, Pv (i + 1), fun σ' H' p' => ⟨xs.length - (i + 1), by omega, rfl, hlt, p'⟩, fun x H' y => ?_⟩
    obtain ⟨e, y⟩ := y
    subst e
    exact hs i x σ _ (y xs q) p
  · have e : i = xs.length := by omega
    subst e
    exact .inl ⟨⟨xs, q, Nat.le_refl _⟩, hd σ H p⟩
theorem for_range {lo : Int} {n : Nat} {g : TG} {tb : TS} {D : Ends} {σ : St} {H : Hp} (Pv : Nat -> St -> Hp -> Prop) (h0 : Pv 0 σ H)
    (hs : ∀ i σ H, i < n -> Pv i σ H -> g (.int (lo + i)) σ H fun σ2 H2 => tb { D with nx := Pv (i + 1), ct := Pv (i + 1), bk := D.nx } σ2 H2) (hd : ∀ σ H, Pv n σ H -> D.nx σ H) :
    ∃ W : Nat -> Nat -> St -> Hp -> Prop, (∃ m, W 0 m σ H) /\ ∀ i m σ H, W i m σ H ->
      ((Itr lo n).stop i H /\ D.nx σ H) \/ ((Itr lo n).go i H /\ ∃ N : St -> Hp -> Prop, (∀ σ' H', N σ' H' -> ∃ m', m' < m /\ W (i + 1) m' σ' H') /\ ∀ x H', (Itr lo n).yld i H x H' -> g x σ H' fun σ2 H2 => tb { D with nx := N, ct := N, bk := D.nx } σ2 H2) := by
  refine ⟨fun i m σ H => m = n - i /\ i <= n /\ Pv i σ H, ⟨n, by simp, Nat.zero_le _, h0⟩, ?_⟩
  rintro i m σ H ⟨rfl, hi, p⟩
  by_cases hlt : i < n
  · refine .inr ⟨hlt, Pv (i + 1), fun σ' H' p' => ⟨n - (i + 1), by omega, rfl, hlt, p'⟩, fun x H' y => ?_⟩
    obtain ⟨e, y⟩ := y
    subst e y
    exact hs i σ _ hlt p
  · have e : i = n := by omega
    subst e
    exact .inl ⟨Nat.le_refl _, hd σ H p⟩
end L2
namespace L2
open PySem PySem.Spec PyProof.Rows
abbrev R2 := V -> V -> Hp -> VK -> Prop
def OpR (X : Cx) (f : Value -> Value -> Sem Value) (r : R2) : Prop :=
  ∀ (pins : List (Addr × Obj)) (s : Shared) (σ : St) (H : Hp) (x y : V) (v u : Value) (Q : VK), Inv X pins σ H s -> RelV x v -> RelV y u -> r x y H Q ->
    wpAny (model X.prog X.w) X.A (f v u) (EP X pins σ Q) X.xe s
def UnR (X : Cx) (f : Value -> Sem Value) (r : V -> Hp -> VK -> Prop) : Prop :=
  ∀ (pins : List (Addr × Obj)) (s : Shared) (σ : St) (H : Hp) (x : V) (v : Value) (Q : VK), Inv X pins σ H s -> RelV x v -> r x H Q ->
    wpAny (model X.prog X.w) X.A (f v) (EP X pins σ Q) X.xe s
def CallR (X : Cx) (f : Value) (r : List V -> Hp -> VK -> Prop) : Prop :=
  ∀ (pins : List (Addr × Obj)) (s : Shared) (σ : St) (H : Hp) (xs : List V) (us : List Value) (Q : VK), Inv X pins σ H s -> Vals xs us -> r xs H Q ->
    wpAny (model X.prog X.w) X.A (call f us) (EP X pins σ Q) X.xe s
def TruR (X : Cx) (r : V -> Hp -> (Bool -> Hp -> Prop) -> Prop) : Prop :=
  ∀ (pins : List (Addr × Obj)) (s : Shared) (σ : St) (H : Hp) (x : V) (v : Value) (Q : Bool -> Hp -> Prop), Inv X pins σ H s -> RelV x v -> r x H Q ->
    wpAny (model X.prog X.w) X.A (truthy v) (TP X pins σ Q) X.xe s
def tOp (r : R2) (ta tb : TE) : TE := fun σ H Q => ta σ H fun x H1 => tb σ H1 fun y H2 => r x y H2 Q
def tUn (r : V -> Hp -> VK -> Prop) (ta : TE) : TE := fun σ H Q => ta σ H fun x H1 => r x H1 Q
def rI (C : Int -> Int -> Prop) (g : Int -> Int -> V) : R2 := fun x y H Q => ∃ i j, x = .int i /\ y = .int j /\ C i j /\ Q (g i j) H
def rI0 (g : Int -> Int -> V) : R2 := fun x y H Q => ∃ i j, x = .int i /\ y = .int j /\ Q (g i j) H
def rU (g : Int -> V) : V -> Hp -> VK -> Prop := fun x H Q => ∃ i, x = .int i /\ Q (g i) H
section
variable {X : Cx} {a b c : Expr} {ta tb tc : TE} {pos : Pos}
theorem binT (ha : PE X a ta) (hb : PE X b tb) {pins : List (Addr × Obj)} {s : Shared} {σ : St} {H : Hp} {R : V -> V -> Hp -> Prop} (I : Inv X pins σ H s)
    (h : ta σ H fun x H1 => tb σ H1 fun y H2 => R x y H2) {Q : Value -> Shared -> Prop} {f : Value -> Value -> Sem Value}
    (hf : ∀ v u s2 x y H2, Inv X pins σ H2 s2 -> RelV x v -> RelV y u -> R x y H2 -> wpAny (model X.prog X.w) X.A (f v u) Q X.xe s2) :
    wpAny (model X.prog X.w) X.A (eval a X.env) (fun v s₁ => wpAny (model X.prog X.w) X.A (eval b X.env) (fun u s₂ => wpAny (model X.prog X.w) X.A (f v u) Q X.xe s₂) X.xe s₁) X.xe s := by
  refine thn (ha pins s σ H _ I h) fun v s1 ⟨x, H1, I1, r1, q1⟩ => ?_
  refine thn (hb pins s1 σ H1 _ I1 q1) fun u s2 ⟨y, H2, I2, r2, q2⟩ => ?_
  exact hf v u s2 x y H2 I2 r1 r2 q2
theorem pe_op {op : Operator} {r : R2} (ho : OpR X (binaryOp op) r) (ha : PE X a ta) (hb : PE X b tb) : PE X (.BinOp a op b pos) (tOp r ta tb) := by
  intro pins s σ H Q I h
  exact wpAny_BinOp (binT ha hb I h fun v u s2 x y H2 I2 rx ry q => ho pins s2 σ H2 x y v u Q I2 rx ry q)
theorem pe_un {op : UnaryOp} {r : V -> Hp -> VK -> Prop} (ho : UnR X (unaryOp op) r) (ha : PE X a ta) : PE X (.UnaryOp op a pos) (tUn r ta) := by
  intro pins s σ H Q I h
  exact UnaryOp_ (thn (ha pins s σ H _ I h) fun v s1 ⟨x, H1, I1, r1, q1⟩ => ho pins s1 σ H1 x v Q I1 r1 q1)
theorem opI {f : Value -> Value -> Sem Value} {C : Int -> Int -> Prop} {g : Int -> Int -> Int}
    (rule : ∀ (i j : Int) (t u : Tok) (s : Shared) (Q : Value -> Shared -> Prop) (E : Value -> Shared -> Prop), C i j -> Q (.int (g i j) s.toks) { s with toks := s.toks + 1 } -> wpAny (model X.prog X.w) X.A (f (.int i t) (.int j u)) Q E s) :
    OpR X f (rI C fun i j => .int (g i j)) := by
  intro pins s σ H x y v u Q I rx ry h
  obtain ⟨i, j, rfl, rfl, hc, q⟩ := h
  obtain ⟨t, rfl⟩ := rx
  obtain ⟨t', rfl⟩ := ry
  exact rule i j t t' s _ _ hc ⟨.int (g i j), H, I.tok _, ⟨_, rfl⟩, q⟩
theorem opI0 {f : Value -> Value -> Sem Value} {g : Int -> Int -> Int}
    (rule : ∀ (i j : Int) (t u : Tok) (s : Shared) (Q : Value -> Shared -> Prop) (E : Value -> Shared -> Prop), Q (.int (g i j) s.toks) { s with toks := s.toks + 1 } -> wpAny (model X.prog X.w) X.A (f (.int i t) (.int j u)) Q E s) :
    OpR X f (rI0 fun i j => .int (g i j)) := by
  intro pins s σ H x y v u Q I rx ry h
  obtain ⟨i, j, rfl, rfl, q⟩ := h
  obtain ⟨t, rfl⟩ := rx
  obtain ⟨t', rfl⟩ := ry
  exact rule i j t t' s _ _ ⟨.int (g i j), H, I.tok _, ⟨_, rfl⟩, q⟩
theorem opB0 {f : Value -> Value -> Sem Value} {g : Int -> Int -> Bool}
    (rule : ∀ (i j : Int) (t u : Tok) (s : Shared) (Q : Value -> Shared -> Prop) (E : Value -> Shared -> Prop), Q (.bool (g i j)) s -> wpAny (model X.prog X.w) X.A (f (.int i t) (.int j u)) Q E s) :
    OpR X f (rI0 fun i j => .bl (g i j)) := by
  intro pins s σ H x y v u Q I rx ry h
  obtain ⟨i, j, rfl, rfl, q⟩ := h
  obtain ⟨t, rfl⟩ := rx
  obtain ⟨t', rfl⟩ := ry
  exact rule i j t t' s _ _ ⟨.bl (g i j), H, I, rfl, q⟩
def CDiv (i j : Int) : Prop := 0 < j /\ j < 1073741824
def CPow (i j : Int) : Prop := 0 <= j /\ j <= 1000000 /\ i.natAbs < 2 ^ 64
def CMul (i j : Int) : Prop := (-(2 ^ 64) < i /\ i < 2 ^ 64) \/ (-(2 ^ 64) < j /\ j < 2 ^ 64)
theorem CMul.ok {i j : Int} (h : CMul i j) : IntMulOk i j := by
  rcases h with ⟨h1, h2⟩ | ⟨h1, h2⟩
  · exact .of_left (intBits_le_64 h1 h2)
  · exact .of_right (intBits_le_64 h1 h2)
theorem op_add : OpR X (binaryOp .Add) (rI0 fun i j => .int (i + j)) := opI0 fun _ _ _ _ _ _ _ q => add_int q
theorem op_sub : OpR X (binaryOp .Sub) (rI0 fun i j => .int (i - j)) := opI0 fun _ _ _ _ _ _ _ q => sub_int q
theorem op_mul : OpR X (binaryOp .Mult) (rI CMul fun i j => .int (i * j)) := opI fun _ _ _ _ _ _ _ hc q => mul_int q hc.ok
theorem op_fdiv : OpR X (binaryOp .FloorDiv) (rI CDiv fun i j => .int (i / j)) := opI fun i j _ _ _ _ _ hc q => by
  have h1 : (0 : Int) < j := hc.1
  have h2 : j < 1073741824 := hc.2
  exact floordiv_int (by omega) (by rw [Int.fdiv_eq_ediv_of_nonneg i (by omega)]; exact q) (.inl (PyProof.noPylong_small (by omega)))
theorem op_mod : OpR X (binaryOp .Mod) (rI (fun _ j => 0 < j) fun i j => .int (i % j)) := opI fun i j _ _ _ _ _ hc q => by
  have h1 : (0 : Int) < j := hc
  exact mod_int' (by omega) (by rw [Int.fmod_eq_emod_of_nonneg i (by omega)]; exact q)
theorem op_pow : OpR X (binaryOp .Pow) (rI CPow fun i j => .int (i ^ j.toNat)) := opI fun _ _ _ _ _ _ _ hc q => pow_int_small hc.1 hc.2.1 hc.2.2 q
theorem unI {f : Value -> Sem Value} {g : Int -> Int}
    (rule : ∀ (i : Int) (t : Tok) (s : Shared) (Q : Value -> Shared -> Prop) (E : Value -> Shared -> Prop), Q (.int (g i) s.toks) { s with toks := s.toks + 1 } -> wpAny (model X.prog X.w) X.A (f (.int i t)) Q E s) :
    UnR X f (rU fun i => .int (g i)) := by
  intro pins s σ H x v Q I rx h
  obtain ⟨i, rfl, q⟩ := h
  obtain ⟨t, rfl⟩ := rx
  exact rule i t s _ _ ⟨.int (g i), H, I.tok _, ⟨_, rfl⟩, q⟩
theorem un_neg : UnR X (unaryOp .USub) (rU fun i => .int (-i)) := unI fun _ _ _ _ _ q => neg_int q
end
def scal : V -> V -> Bool
  | .non, .non => true | .non, .int _ => true | .int _, .non => true | .non, .bl _ => true | .bl _, .non => true | .non, .str _ => true | .str _, .non => true
  | .int _, .int _ => true | .bl _, .bl _ => true | .str _, .str _ => true | .byt _, .byt _ => true
  | .int _, .str _ => true | .str _, .int _ => true | .bl _, .str _ => true | .str _, .bl _ => true
  | _, _ => false
def rEq : R2 := fun x y H Q => scal x y = true /\ Q (.bl (decide (x = y))) H
def rNe : R2 := fun x y H Q => scal x y = true /\ Q (.bl (!decide (x = y))) H
theorem dec_int {i j : Int} : decide (V.int i = V.int j) = (i == j) := by
  rw [Bool.eq_iff_iff]
  simp
theorem dec_bl {i j : Bool} : decide (V.bl i = V.bl j) = (i == j) := by
  rw [Bool.eq_iff_iff]
  simp
theorem dec_str {i j : Str} : decide (V.str i = V.str j) = (i == j) := by
  rw [Bool.eq_iff_iff]
  simp
theorem dec_byt {i j : Array UInt8} : decide (V.byt i = V.byt j) = (i.toList == j.toList) := by
  rw [Bool.eq_iff_iff]
  cases i
  cases j
  simp
section
variable {X : Cx} {a b c : Expr} {ta tb tc : TE} {pos : Pos}
theorem fin_bl {pins : List (Addr × Obj)} {σ : St} {H : Hp} {s : Shared} {Q : VK} {k k' : Bool} (I : Inv X pins σ H s) (q : Q (.bl k) H) (e : k = k') : EP X pins σ Q (.bool k') s := by
  subst e
  exact ⟨.bl k, H, I, rfl, q⟩
theorem op_eq : OpR X (compareOp .Eq) rEq := by
  intro pins s σ H x y v u Q I rx ry h
  obtain ⟨hs, q⟩ := h
  cases x with
  | non =>
    cases rx
    cases y with
    | non => cases ry; exact PySem.EqNone.eq_none_none (fin_bl I q (by simp))
    | bl j => cases ry; exact PySem.EqNone.eq_none_bool (fin_bl I q (by simp))
    | int j => obtain ⟨t', rfl⟩ := ry; exact PySem.EqNone.eq_none_int (fin_bl I q (by simp))
    | str j => obtain ⟨t', rfl⟩ := ry; exact PySem.EqNone.eq_none_str (fin_bl I q (by simp))
    | _ => exact absurd (show false = true from hs) Bool.false_ne_true
  | bl i =>
    cases rx
    cases y with
    | non => cases ry; exact PySem.EqNone.eq_bool_none (fin_bl I q (by simp))
    | bl j => cases ry; exact eq_bool (fin_bl I q dec_bl)
    | str j => obtain ⟨t', rfl⟩ := ry; exact PySem.EqMixed.eq_bool_str (fin_bl I q (by simp))
    | _ => exact absurd (show false = true from hs) Bool.false_ne_true
  | int i =>
    obtain ⟨t, rfl⟩ := rx
    cases y with
    | non => cases ry; exact PySem.EqNone.eq_int_none (fin_bl I q (by simp))
    | int j => obtain ⟨t', rfl⟩ := ry; exact eq_int (fin_bl I q dec_int)
    | str j => obtain ⟨t', rfl⟩ := ry; exact PySem.EqMixed.eq_int_str (fin_bl I q (by simp))
    | _ => exact absurd (show false = true from hs) Bool.false_ne_true
  | str i =>
    obtain ⟨t, rfl⟩ := rx
    cases y with
    | non => cases ry; exact PySem.EqNone.eq_str_none (fin_bl I q (by simp))
    | bl j => cases ry; exact PySem.EqMixed.eq_str_bool (fin_bl I q (by simp))
    | int j => obtain ⟨t', rfl⟩ := ry; exact PySem.EqMixed.eq_str_int (fin_bl I q (by simp))
    | str j => obtain ⟨t', rfl⟩ := ry; exact eq_str (fin_bl I q dec_str)
    | _ => exact absurd (show false = true from hs) Bool.false_ne_true
  | byt i =>
    obtain ⟨t, rfl⟩ := rx
    cases y with
    | byt j => obtain ⟨t', rfl⟩ := ry; exact PySem.W.eq_bytes (fin_bl I q dec_byt)
    | _ => exact absurd (show false = true from hs) Bool.false_ne_true
  | _ => cases y <;> exact absurd (show false = true from hs) Bool.false_ne_true
theorem op_ne : OpR X (compareOp .NotEq) rNe := by
  intro pins s σ H x y v u Q I rx ry h
  obtain ⟨hs, q⟩ := h
  cases x with
  | non =>
    cases rx
    cases y with
    | non => cases ry; exact PySem.EqNone.ne_none_none (fin_bl I q (by simp))
    | bl j => cases ry; exact PySem.EqNone.ne_none_bool (fin_bl I q (by simp))
    | int j => obtain ⟨t', rfl⟩ := ry; exact PySem.EqNone.ne_none_int (fin_bl I q (by simp))
    | str j => obtain ⟨t', rfl⟩ := ry; exact PySem.EqNone.ne_none_str (fin_bl I q (by simp))
    | _ => exact absurd (show false = true from hs) Bool.false_ne_true
  | bl i =>
    cases rx
    cases y with
    | non => cases ry; exact PySem.EqNone.ne_bool_none (fin_bl I q (by simp))
    | bl j => cases ry; exact ne_bool (fin_bl I q (congrArg not dec_bl))
    | str j => obtain ⟨t', rfl⟩ := ry; exact PySem.EqMixed.ne_bool_str (fin_bl I q (by simp))
    | _ => exact absurd (show false = true from hs) Bool.false_ne_true
  | int i =>
    obtain ⟨t, rfl⟩ := rx
    cases y with
    | non => cases ry; exact PySem.EqNone.ne_int_none (fin_bl I q (by simp))
    | int j => obtain ⟨t', rfl⟩ := ry; exact ne_int (fin_bl I q (congrArg not dec_int))
    | str j => obtain ⟨t', rfl⟩ := ry; exact PySem.EqMixed.ne_int_str (fin_bl I q (by simp))
    | _ => exact absurd (show false = true from hs) Bool.false_ne_true
  | str i =>
    obtain ⟨t, rfl⟩ := rx
    cases y with
    | non => cases ry; exact PySem.EqNone.ne_str_none (fin_bl I q (by simp))
    | bl j => cases ry; exact PySem.EqMixed.ne_str_bool (fin_bl I q (by simp))
    | int j => obtain ⟨t', rfl⟩ := ry; exact PySem.EqMixed.ne_str_int (fin_bl I q (by simp))
    | str j => obtain ⟨t', rfl⟩ := ry; exact ne_str (fin_bl I q (congrArg not dec_str))
    | _ => exact absurd (show false = true from hs) Bool.false_ne_true
  | byt i =>
    obtain ⟨t, rfl⟩ := rx
    cases y with
    | byt j => obtain ⟨t', rfl⟩ := ry; exact PySem.W.ne_bytes (fin_bl I q (congrArg not dec_byt))
    | _ => exact absurd (show false = true from hs) Bool.false_ne_true
  | _ => cases y <;> exact absurd (show false = true from hs) Bool.false_ne_true
theorem op_lt : OpR X (compareOp .Lt) (rI0 fun i j => .bl (decide (i < j))) := opB0 fun _ _ _ _ _ _ _ q => lt_int q
theorem op_le : OpR X (compareOp .LtE) (rI0 fun i j => .bl (decide (i <= j))) := opB0 fun _ _ _ _ _ _ _ q => le_int q
theorem op_gt : OpR X (compareOp .Gt) (rI0 fun i j => .bl (decide (j < i))) := opB0 fun _ _ _ _ _ _ _ q => gt_int q
theorem op_in_str : OpR X (compareOp .In) (fun x y H Q => ∃ i j, x = .str i /\ y = .str j /\ Q (.bl (!(Builtin.Str.occurrences j i 0 j.length 1).isEmpty)) H) := by
  intro pins s σ H x y v u Q I rx ry h
  obtain ⟨i, j, rfl, rfl, q⟩ := h
  obtain ⟨t, rfl⟩ := rx
  obtain ⟨t', rfl⟩ := ry
  exact in_str (fin_bl I q rfl)
theorem op_notN : OpR X (compareOp .IsNot) (fun x y H Q => y = .non /\ Q (.bl (!decide (x = .non))) H) := by
  intro pins s σ H x y v u Q I rx ry h
  obtain ⟨rfl, q⟩ := h
  cases ry
  refine isnot_none_gen (fin_bl I q ?_)
  cases x <;> first
    | (cases rx; rfl)
    | (obtain ⟨t, rfl⟩ := rx; rfl)
theorem op_notin_str : OpR X (compareOp .NotIn) (fun x y H Q => ∃ i j, x = .str i /\ y = .str j /\ Q (.bl (!(!(Builtin.Str.occurrences j i 0 j.length 1).isEmpty))) H) := by
  intro pins s σ H x y v u Q I rx ry h
  obtain ⟨i, j, rfl, rfl, q⟩ := h
  obtain ⟨t, rfl⟩ := rx
  obtain ⟨t', rfl⟩ := ry
  exact notIn_str (fin_bl I q rfl)
theorem nomark (b : Expr) {op : CmpOp} (h : op ≠ .In := by decide) (h2 : op ≠ .NotIn := by decide) : behindInMarks op b = false := by
  have e1 : (op == CmpOp.In) = false := by cases op <;> first | rfl | exact absurd rfl h
  have e2 : (op == CmpOp.NotIn) = false := by cases op <;> first | rfl | exact absurd rfl h2
  cases b <;> simp [behindInMarks, e1, e2]
theorem pe_cmpR {op : CmpOp} {r : R2} (ho : OpR X (compareOp op) r) (ha : PE X a ta) (hb : PE X b tb) (hm : behindInMarks op b = false) : PE X (.Compare a [op] [b] pos) (tOp r ta tb) := by
  intro pins s σ H Q I h
  exact wpAny_Compare1 (binT ha hb I h fun v u s2 x y H2 I2 rx ry q => ho pins s2 σ H2 x y v u Q I2 rx ry q) hm
def tTest (t : TE) : TT := fun σ H Q => t σ H fun x H' => ∃ k, x = .bl k /\ Q k H'
theorem pt_cmpR {op : CmpOp} {r : R2} (ho : OpR X (compareOp op) r) (ha : PE X a ta) (hb : PE X b tb) (hm : behindInMarks op b = false) : PT X (.Compare a [op] [b] pos) (tTest (tOp r ta tb)) := by
  intro pins s σ H Q I h
  refine wpAny_isTrue_Compare1 (thn (ha pins s σ H _ I h) fun v s1 ⟨x, H1, I1, r1, q1⟩ => thn (hb pins s1 σ H1 _ I1 q1) fun u s2 ⟨y, H2, I2, r2, q2⟩ =>
    thn (ho pins s2 σ H2 x y v u _ I2 r1 r2 q2) fun c s3 ⟨z, H3, I3, r3, k, e, q3⟩ => ?_) hm
  subst e
  cases r3
  exact wpAny_truthy_bool ⟨H3, I3, q3⟩
def tChain (r r' : R2) (ta tb tc : TE) : TE := fun σ H Q => ta σ H fun x H1 => tb σ H1 fun y H2 => r x y H2 fun z H3 => ∃ k, z = .bl k /\
  (if k = true then tc σ H3 fun w' H4 => r' y w' H4 Q else Q (.bl false) H3)
theorem pt_chain {op op' : CmpOp} {r r' : R2} (ho : OpR X (compareOp op) r) (ho' : OpR X (compareOp op') r') (ha : PE X a ta) (hb : PE X b tb) (hc : PE X c tc)
    (hm : lastMarks [op, op'] [b, c] = false := by with_unfolding_all rfl) : PT X (.Compare a [op, op'] [b, c] pos) (tTest (tChain r r' ta tb tc)) := by
  intro pins s σ H Q I h
  refine isTrue_chain (thn (ha pins s σ H _ I h) fun v s1 ⟨x, H1, I1, r1, q1⟩ => test_link (thn (hb pins s1 σ H1 _ I1 q1) fun u s2 ⟨y, H2, I2, r2, q2⟩ =>
    thn (ho pins s2 σ H2 x y v u _ I2 r1 r2 q2) fun d s3 ⟨z, H3, I3, r3, k, e, q3⟩ => ?_)) hm
  subst e
  cases r3
  refine wpAny_truthy_bool ?_
  cases k with
  | false =>
    obtain ⟨k', e', q'⟩ := q3
    cases e'
    exact ite_ff ⟨H3, I3, q'⟩
  | true =>
    refine ite_tt (test_last (thn (hc pins s3 σ H3 _ I3 q3) fun w' s4 ⟨z', H4, I4, r4, q4⟩ => thn (ho' pins s4 σ H4 y z' u w' _ I4 r2 r4 q4) fun d' s5 ⟨z2, H5, I5, r5, k2, e2, q5⟩ => ?_))
    subst e2
    cases r5
    exact wpAny_truthy_bool ⟨H5, I5, q5⟩
def TruV (K : PySem.W.Frag) (x : V) (H : Hp) (k : Bool) : Prop :=
  match x with
  | .non => k = false
  | .bl b => k = b
  | .int i => k = (i != 0)
  | .str y => y.length <= sizeLine /\ k = ((y.length : Int) != 0)
  | .byt y => y.size <= sizeLine /\ k = ((y.size : Int) != 0)
  | .ref p => (∃ xs, SqL K H p xs /\ k = !xs.isEmpty) \/ (∃ xs, SqT K H p xs /\ k = !xs.isEmpty) \/ ∃ kvs, H p = some (.dK kvs) /\ k = !kvs.isEmpty
  | _ => False
theorem isEmpty_kv {κ : Type} {kvs : List (κ × V)} {vs : List (κ × Value)} (r : KV kvs vs) : (!vs.isEmpty) = !kvs.isEmpty := by
  cases r <;> rfl
theorem isEmpty_of {xs : List V} {its : List Value} (r : Vals xs its) : (!its.toArray.isEmpty) = !xs.isEmpty := by
  cases r <;> simp
theorem line63 : (sizeLine : Nat) < 2 ^ 63 := by rw [sizeLine_eq]; decide
theorem tru_ok : TruR X (fun x H Q => ∃ k, TruV X.K x H k /\ Q k H) := by
  intro pins s σ H x v Q I rx h
  obtain ⟨k, e, q⟩ := h
  have hl := line63
  have hs : sizeLine = 16777216 := sizeLine_eq
  cases x with
  | non =>
    cases rx
    have e' : k = false := e
    subst e'
    exact truthy_none ⟨H, I, q⟩
  | bl b =>
    cases rx
    have e' : k = b := e
    subst e'
    exact wpAny_truthy_bool ⟨H, I, q⟩
  | int i =>
    obtain ⟨t, rfl⟩ := rx
    have e' : k = (i != 0) := e
    subst e'
    exact PySem.P.truthy_int ⟨H, I, q⟩
  | str y =>
    obtain ⟨t, rfl⟩ := rx
    obtain ⟨hy, e'⟩ : y.length <= sizeLine /\ k = ((y.length : Int) != 0) := e
    subst e'
    exact PySem.P.truthy_str (by omega) ⟨H, I.tok _, q⟩
  | byt y =>
    obtain ⟨t, rfl⟩ := rx
    obtain ⟨hy, e'⟩ : y.size <= sizeLine /\ k = ((y.size : Int) != 0) := e
    subst e'
    exact PySem.W.truthy_bytes (by omega) ⟨H, I.tok _, q⟩
  | ref p =>
    cases rx
    have e' : (∃ xs, SqL X.K H p xs /\ k = !xs.isEmpty) \/ (∃ xs, SqT X.K H p xs /\ k = !xs.isEmpty) \/ ∃ kvs, H p = some (.dK kvs) /\ k = !kvs.isEmpty := e
    rcases e' with ⟨xs, hx, e'⟩ | ⟨xs, hx, e'⟩ | ⟨kvs, hx, e'⟩
    · subst e'
      obtain ⟨its, r, pl, hz⟩ := I.list hx
      have hlen := r.length
      exact wpAny_truthy_list pl.isList (by simp only [List.size_toArray]; omega) ⟨H, I.tok _, by rw [isEmpty_of r]; exact q⟩
    · subst e'
      obtain ⟨its, r, pl, hz⟩ := I.tuple hx
      have hlen := r.length
      exact truthy_tuple pl (by simp only [List.size_toArray]; omega) ⟨H, I.tok _, by rw [isEmpty_of r]; exact q⟩
    · subst e'
      obtain ⟨hz, hS, vs, r, m⟩ : kvs.length <= sizeLine /\ (p == sysModules) = false /\ ∃ vs, KV kvs vs /\ s.heap.DictOf (mixKind X.prog X.w) p vs := I.hok p _ hx
      have hlen : kvs.length = vs.length := Paired.length r
      exact wpAny_truthy_dict hS m (by omega) ⟨H, I.tok _, by rw [isEmpty_kv r]; exact q⟩
  | _ => exact (show False from e).elim
theorem pt_truth (ha : PE X a ta) (he : ∀ whole, isTrue a X.env whole = (do let v <- whole; standAt a.pos; holding [v] (truthy v))) :
    PT X a (fun σ H Q => ta σ H fun x H' => ∃ k, TruV X.K x H' k /\ Q k H') := by
  intro pins s σ H Q I h
  exact isTrue_plain (thn (ha pins s σ H _ I h) fun v s1 ⟨x, H1, I1, r1, q1⟩ => tru_ok pins s1 σ H1 x v Q I1 r1 q1) (he _)
theorem op_add_str : OpR X (binaryOp .Add) (fun x y H Q => ∃ i j, x = .str i /\ y = .str j /\ i.length + j.length <= sizeLine /\ Q (.str (i ++ j)) H) := by
  intro pins s σ H x y v u Q I rx ry h
  obtain ⟨i, j, rfl, rfl, hz, q⟩ := h
  obtain ⟨t, rfl⟩ := rx
  obtain ⟨t', rfl⟩ := ry
  exact add_str (fun t' tk => ⟨.str (i ++ j), H, I.tok _, ⟨_, rfl⟩, q⟩) hz
theorem vals1 {x : V} {us : List Value} (r : Vals [x] us) : ∃ u, us = [u] /\ RelV x u := by
  cases r with
  | cons r1 r2 => cases r2; exact ⟨_, rfl, r1⟩
theorem vals2 {x y : V} {us : List Value} (r : Vals [x, y] us) : ∃ u w', us = [u, w'] /\ RelV x u /\ RelV y w' := by
  cases r with
  | cons r1 r2 =>
    cases r2 with
    | cons r3 r4 => cases r4; exact ⟨_, _, rfl, r1, r3⟩
theorem call_min2 (hc : X.calm = true) : CallR X (.builtin "min") (fun xs H Q => ∃ i j, xs = [.int i, .int j] /\ Q (.int (if j < i then j else i)) H) := by
  intro pins s σ H xs us Q I r h
  obtain ⟨i, j, rfl, q⟩ := h
  obtain ⟨u, w', rfl, ⟨t, rfl⟩, ⟨t', rfl⟩⟩ := vals2 r
  refine min_two_ints (I.ok.hd hc) fun h' tk k => ⟨_, H, I.kept k, ?_, q⟩
  by_cases hj : j < i
  · rw [if_pos hj, if_pos hj]; exact ⟨_, rfl⟩
  · rw [if_neg hj, if_neg hj]; exact ⟨_, rfl⟩
theorem call_int1 : CallR X (.type "int") (fun xs H Q => (∃ i, xs = [.int i] /\ Q (.int i) H) \/ ∃ k, xs = [.bl k] /\ Q (.int (if k then 1 else 0)) H) := by
  intro pins s σ H xs us Q I r h
  rcases h with ⟨i, rfl, q⟩ | ⟨k, rfl, q⟩
  · obtain ⟨u, rfl, t, rfl⟩ := vals1 r
    exact call_int_int ⟨.int i, H, I, ⟨_, rfl⟩, q⟩
  · obtain ⟨u, rfl, r1⟩ := vals1 r
    cases r1
    exact call_int_bool ⟨.int (if k then 1 else 0), H, I.tok _, ⟨_, rfl⟩, q⟩
theorem call_str_int : CallR X (.type "str") (fun xs H Q => ∃ i, xs = [.int i] /\ i.natAbs.log2 < 1920 /\ Q (.str (toString i)) H) := by
  intro pins s σ H xs us Q I r h
  obtain ⟨i, rfl, hz, q⟩ := h
  obtain ⟨u, rfl, t, rfl⟩ := vals1 r
  exact PySem.P.str_of_int hz ⟨.str _, H, I.tok _, ⟨_, rfl⟩, q⟩
end
end L2
namespace L2
open PySem PySem.Spec PyProof.Rows
structure ObjM (h : Heap) (x dx C : Addr) (mA : Str -> Option Value) : Prop where
  obj : h.get? x = some (PySem.W.instObj C dx)
  ns : h.Ns1 dx mA
  ne : dx ≠ x
theorem lookIn_ns {h : Heap} {dx : Addr} {mA : Str -> Option Value} (n : h.Ns1 dx mA) : ∃ od, h.get? dx = some od /\ ∀ name, PySem.W.lookIn name od = some (mA name) := by
  obtain ⟨o, es, ep, ho, hd, hk, _, hm⟩ := n
  refine ⟨o, ho, fun name => ?_⟩
  have e := hm name
  unfold nsFind findBy at e
  rw [<- Array.find?_toList] at e
  unfold PySem.W.lookIn
  rw [hd]
  dsimp only
  split
  · rename_i y q
    rw [q] at e
    exact congrArg some e
  · rename_i q
    rw [q] at e
    have a : es.toList.any (·.refKey) = false := by
      rw [List.any_eq_false]
      intro y hy
      obtain ⟨z, t, hkey⟩ := hk y (Array.mem_toList_iff.mp hy)
      simp [DictEntry.refKey, hkey]
    have a' : ¬ es.toList.any (·.refKey) = true := by rw [a]; exact Bool.false_ne_true
    rw [if_neg a']
    exact congrArg some e
theorem ObjM.look {h : Heap} {x dx C : Addr} {mA : Str -> Option Value} (I : ObjM h x dx C mA) : ∃ od, PySem.W.InstAt h x (PySem.W.instObj C dx) C (some od) /\ ∀ name, PySem.W.lookIn name od = some (mA name) :=
  let ⟨od, ho, hl⟩ := lookIn_ns I.ns
  ⟨od, ⟨I.obj, rfl, rfl, ho⟩, hl⟩
section
variable {prog : Program} {w : World} {A : Around} {E : Value -> Shared -> Prop} {s : Shared} {K : PySem.W.Frag} {x dx C f : Addr} {mA : Str -> Option Value} {name : Str} {v : Value}
theorem get_map {expr : Bool} {Q : Value -> Shared -> Prop} (X : K.In s.heap) (I : ObjM s.heap x dx C mA) (hg : PySem.W.plainGet K C name = true) (hh : PySem.W.hasDictIn K C = true)
    (ha : PySem.W.findIn K (.ref C) name = some none) (hv : mA name = some v) (hv' : PySem.W.handedIn v = true) (h : Q v { s with toks := s.toks + 1 }) :
    wpAny (model prog w) A (getAttr (.ref x) name expr) Q E s := by
  obtain ⟨od, J, hl⟩ := I.look
  exact PySem.W.get_value X J (PySem.W.plainGet_of hg).1 (PySem.W.findObj_own hh ha rfl (by rw [hl, hv])) hv' h
theorem get_meth {pl : Sem Bool} {Q : Value × List Value -> Shared -> Prop} (X : K.In s.heap) (I : ObjM s.heap x dx C mA) (hg : PySem.W.plainGet K C name = true)
    (hf : PySem.W.findIn K (.ref C) name = some (some (.ref f))) (ht : PySem.W.isFn K (.ref f) = true) (hv : mA name = none) (h : Q (.ref f, [.ref x]) s) :
    wpAny (model prog w) A (getMethod (.ref x) name pl) Q E s := by
  obtain ⟨od, J, hl⟩ := I.look
  exact PySem.W.method_fn X J (PySem.W.plainGet_of hg).1 (PySem.W.plainGet_of hg).2 hf (beq_iff_eq.mp ht) (by show (PySem.W.lookIn name od).map (·.isSome) = some false; rw [hl, hv]; rfl) h
theorem set_map {ns : List Str} {Q : Unit -> Shared -> Prop} (X : K.In s.heap) (I : ObjM s.heap x dx C mA)
    (hs : PySem.W.findIn K (.ref C) "__setattr__" = some (some (.builtin "object.__setattr__"))) (hp : PySem.W.plainOver K C = true) (ht : PySem.W.takerIn K C name = some none) (hh : PySem.W.hasDictIn K C = true)
    (hw : PySem.Within mA ns) (hsz : ns.length <= sizeLine)
    (h : ∀ h', ObjM h' x dx C (fun y => if y = name then some v else mA y) -> Heap.SameBut dx s.heap h' -> Q () { s with heap := h', toks := s.toks + 2 }) :
    wpAny (model prog w) A (setAttr (.ref x) name v) Q E s := by
  obtain ⟨od, J, hl⟩ := I.look
  refine PySem.W.set_plain X J hs (PySem.W.osa_open (s := { s with toks := s.toks + 1 }) (r := none) X J hp ht fun b => ?_)
  obtain ⟨cd, hc, hd'⟩ := PySem.W.any_some hh
  have hx : s.heap.get? x = some ⟨.ref C, some dx, .plain, #[]⟩ := I.obj
  refine wpAny_bind (wpAny_pure (wpAny_bind (wpAny_bind (wpAny_loadPart hx (wpAny_bind (PySem.W.Looks.here (s := { s with toks := s.toks + 1 }) (PySem.W.looks_clsIn X hc) ?_))))))
  rw [hd']
  refine wpAny_pure (a := some dx) (wpAny_bind (wpAny_pure (wpAny_bind ?_)))
  refine wpAny_nsSet1 (s := { s with toks := s.toks + 1 }) I.ns fun h' hn2 hs2 => ?_
  obtain ⟨oD, esD, epD, hoD, hdD, hcD⟩ := hn2.count (PySem.Within.cons name v hw)
  refine wpAny_bind (wpAny_lookBehind hoD (by rw [hdD]; exact pastItsLine_dict (Nat.le_trans hcD (by rw [List.length_cons]; omega))) ?_)
  exact wpAny_pure (h _ ⟨(hs2.2 _ (Ne.symm I.ne)).trans I.obj, hn2, I.ne⟩ hs2)
theorem make_map {R : Result -> Shared -> Prop} {vs : List Value} {kw : List (Str × Value)} (X : K.In s.heap) (hm : PySem.W.makesIn K C = true)
    (hi : PySem.W.findIn K (.ref C) "__init__" = some (some (.ref f))) (hf : PySem.W.typeIn K (.ref f) = some (.type "function"))
    (h : codeAny (model prog w) (A.under (.builtin "type.__call__" ⟨.ref C :: vs, kw⟩)) (.call (.ref f) ⟨.ref (s.heap.objs.size + 1) :: vs, kw⟩) (PySem.W.InitBack (s.heap.objs.size + 1) R)
      { s with heap := (s.heap.push PySem.W.emptyDict).push (PySem.W.instObj C s.heap.objs.size) }) :
    codeAny (model prog w) A (.call (.ref C) ⟨vs, kw⟩) R s := by
  obtain ⟨hh, g, d, t, os⟩ := s
  exact PySem.W.make_core (PySem.W.makes_of X hm) (PySem.W.looks_findIn X hi) (fun self => PySem.W.bind_fn X self hf) (.inl rfl) h
end
def putF (f : Str) (v : V) : List (Str × V) -> List (Str × V)
  | [] => [(f, v)]
  | (g, x) :: r => if g = f then (g, v) :: r else (g, x) :: putF f v r
theorem lookup_putF (f g : Str) (v : V) : ∀ fs : List (Str × V), (putF f v fs).lookup g = if g = f then some v else fs.lookup g
  | [] => by
    show List.lookup g [(f, v)] = _
    by_cases h : g = f
    · have hb : (g == f) = true := beq_iff_eq.mpr h
      simp only [List.lookup, hb, if_pos h]
    · have hb : (g == f) = false := beq_eq_false_iff_ne.mpr h
      simp only [List.lookup, hb, if_neg h]
  | (k, x) :: r => by
    have ih := lookup_putF f g v r
    rw [show putF f v ((k, x) :: r) = (if k = f then (k, v) :: r else (k, x) :: putF f v r) from rfl]
    by_cases hk : k = f
    · rw [if_pos hk]
      by_cases h : g = k
      · have hb : (g == k) = true := beq_iff_eq.mpr h
        simp only [List.lookup, hb, if_pos (h.trans hk)]
      · have hb : (g == k) = false := beq_eq_false_iff_ne.mpr h
        simp only [List.lookup, hb, if_neg (fun e : g = f => h (e.trans hk.symm))]
    · rw [if_neg hk]
      by_cases h : g = k
      · have hb : (g == k) = true := beq_iff_eq.mpr h
        simp only [List.lookup, hb, if_neg (fun e : g = f => hk (h.symm.trans e))]
      · have hb : (g == k) = false := beq_eq_false_iff_ne.mpr h
        simp only [List.lookup, hb]
        exact ih
theorem keys_putF (f : Str) (v : V) : ∀ fs : List (Str × V), f ∈ (putF f v fs).map (·.1) /\ ∀ g, g ∈ fs.map (·.1) -> g ∈ (putF f v fs).map (·.1)
  | [] => ⟨by simp [putF], fun g h => by simp at h⟩
  | (k, x) :: r => by
    obtain ⟨i1, i2⟩ := keys_putF f v r
    rw [show putF f v ((k, x) :: r) = (if k = f then (k, v) :: r else (k, x) :: putF f v r) from rfl]
    by_cases hk : k = f
    · rw [if_pos hk]
      subst hk
      exact ⟨by simp, fun g h => by simpa using h⟩
    · rw [if_neg hk]
      refine ⟨?_, fun g h => ?_⟩
      · rw [List.map_cons]
        exact List.mem_cons_of_mem _ i1
      · rw [List.map_cons] at h ⊢
        rcases List.mem_cons.mp h with e | e
        · exact List.mem_cons.mpr (.inl e)
        · exact List.mem_cons_of_mem _ (i2 g e)
theorem length_putF (f : Str) (v : V) : ∀ fs : List (Str × V), (putF f v fs).length <= fs.length + 1
  | [] => by simp [putF]
  | (k, x) :: r => by
    have ih := length_putF f v r
    rw [show putF f v ((k, x) :: r) = (if k = f then (k, v) :: r else (k, x) :: putF f v r) from rfl]
    by_cases hk : k = f
    · rw [if_pos hk, List.length_cons, List.length_cons]; omega
    · rw [if_neg hk, List.length_cons, List.length_cons]; omega
theorem RelO.some_of {v : V} {o : Option Value} (r : RelO (some v) o) : ∃ u, o = some u /\ RelV v u := by
  cases o with
  | none => exact (show False from r).elim
  | some u => exact ⟨u, rfl, r⟩
theorem RelO.none_of {o : Option Value} (r : RelO none o) : o = none := by
  cases o with
  | none => rfl
  | some u => exact (show False from r).elim
theorem handed_of {v : V} {u : Value} (r : RelV v u) : PySem.W.handedIn u = true := by
  cases v with
  | non => cases (show u = Value.none from r); rfl
  | bl b => cases (show u = Value.bool b from r); rfl
  | int i => obtain ⟨t, e⟩ := (show ∃ t, u = Value.int i t from r); cases e; rfl
  | str x => obtain ⟨t, e⟩ := (show ∃ t, u = Value.str x t from r); cases e; rfl
  | byt b => obtain ⟨t, e⟩ := (show ∃ t, u = Value.bytes b t from r); cases e; rfl
  | flt b => obtain ⟨t, e⟩ := (show ∃ t, u = Value.float b t from r); cases e; rfl
  | ref a => cases (show u = Value.ref a from r); rfl
  | ty n => cases (show u = Value.type n from r); rfl
section
variable {P : Program} {w : World} {H H' : Hp} {h h' : Heap} {a C dx : Addr} {fs fs' : List (Str × V)}
theorem ins_get (hok : HOk P w H h) (e : H a = some (.ins C dx fs)) : ∃ mA, ObjM h a dx C mA /\ (∀ f, RelO (fs.lookup f) (mA f)) /\ PySem.Within mA (fs.map (·.1)) /\ fs.length <= 1000 /\ H dx = some (.own a) := by
  obtain ⟨d, z, ne, ob, mA, n, r, q⟩ := (show ObjOk P w H h a (.ins C dx fs) from hok a _ e)
  exact ⟨mA, ⟨ob, n, ne⟩, r, q, z, d⟩
end
structure Cls (K : PySem.W.Frag) (C : Addr) : Prop where
  pg : PySem.W.plainGet K C Str.empty = true
  hd : PySem.W.hasDictIn K C = true
  po : PySem.W.plainOver K C = true
  sa : PySem.W.findIn K (.ref C) "__setattr__" = some (some (.builtin "object.__setattr__"))
theorem Cls.get {K : PySem.W.Frag} {C : Addr} (c : Cls K C) (f : Str) : PySem.W.plainGet K C f = true := c.pg
def NoAttr (K : PySem.W.Frag) (C : Addr) (f : Str) : Prop := PySem.W.findIn K (.ref C) f = some none
theorem NoAttr.taker {K : PySem.W.Frag} {C : Addr} {f : Str} (n : NoAttr K C f) : PySem.W.takerIn K C f = some none := by
  unfold PySem.W.takerIn
  rw [show PySem.W.findIn K (.ref C) f = some none from n]
  rfl
structure Meth (K : PySem.W.Frag) (C : Addr) (m : Str) (f : Addr) : Prop where
  at_ : PySem.W.findIn K (.ref C) m = some (some (.ref f))
  fn : PySem.W.isFn K (.ref f) = true
  kp : PySem.W.keepIn K (.ref f) = true
section
variable {X : Cx} {pins : List (Addr × Obj)} {σ : St} {H : Hp} {s : Shared} {a C dx : Addr} {fs : List (Str × V)} {f : Str} {v : V} {A : Around} {E : Value -> Shared -> Prop}
theorem getattr_ok {b : Bool} {Q : Value -> Shared -> Prop} (I : Inv X pins σ H s) (e : H a = some (.ins C dx fs)) (c : Cls X.K C) (n : NoAttr X.K C f) (l : fs.lookup f = some v)
    (h : ∀ u s', Inv X pins σ H s' -> RelV v u -> Q u s') : wpAny (model X.prog X.w) A (getAttr (.ref a) f b) Q E s := by
  obtain ⟨mA, O, r, _, _, _⟩ := ins_get I.hok e
  obtain ⟨u, hu, ru⟩ := RelO.some_of (v := v) (o := mA f) (by rw [<- l]; exact r f)
  exact get_map I.kIn O (c.get f) c.hd n hu (handed_of ru) (h u _ (I.tok _) ru)
theorem getmeth_ok {m : Str} {g : Addr} {pl : Sem Bool} {Q : Value × List Value -> Shared -> Prop} (I : Inv X pins σ H s) (e : H a = some (.ins C dx fs)) (c : Cls X.K C) (k : Meth X.K C m g) (l : fs.lookup m = none)
    (h : Q (.ref g, [.ref a]) s) : wpAny (model X.prog X.w) A (getMethod (.ref a) m pl) Q E s := by
  obtain ⟨mA, O, r, _, _, _⟩ := ins_get I.hok e
  have hn : mA m = none := RelO.none_of (by rw [<- l]; exact r m)
  exact get_meth I.kIn O (c.get m) k.at_ k.fn hn h
theorem setattr_ok {y : V} {u : Value} {Q : Unit -> Shared -> Prop} (I : Inv X pins σ H s) (e : H a = some (.ins C dx fs)) (c : Cls X.K C) (n : NoAttr X.K C f) (hl : fs.length < 1000) (ry : RelV y u)
    (h : ∀ s', Inv X pins σ (upd H a (.ins C dx (putF f y fs))) s' -> Q () s') : wpAny (model X.prog X.w) A (setAttr (.ref a) f u) Q E s := by
  obtain ⟨mA, O, r, wi, _, ho⟩ := ins_get I.hok e
  have hz : (fs.map (·.1)).length <= sizeLine := by rw [List.length_map, sizeLine_eq]; omega
  refine set_map I.kIn O c.sa c.po n.taker c.hd wi hz fun h' O' sb => h _ ?_
  have hd : ∃ o, h'.get? dx = some o := let ⟨o, _, _, e', _⟩ := O'.ns; ⟨o, e'⟩
  refine I.write (x := a) (e := dx) (by rw [e]; exact True.intro) (.inr ho) (fun b q hb z => (sb.2 b hb).trans z) hd ?_
  refine ⟨by rw [upd_ne O.ne]; exact ho, ?_, O.ne, O'.obj, _, O'.ns, fun g => ?_, fun g hg => ?_⟩
  · have := length_putF f y fs; omega
  · show RelO ((putF f y fs).lookup g) (if g = f then some u else mA g)
    rw [lookup_putF]
    by_cases q : g = f
    · rw [if_pos q, if_pos q]; exact ry
    · rw [if_neg q, if_neg q]; exact r g
  · by_cases q : g = f
    · rw [q]; exact (keys_putF f y fs).1
    · refine (keys_putF f y fs).2 g (wi g fun z => hg ?_)
      show (if g = f then some u else mA g) = none
      rw [if_neg q]; exact z
theorem Inv.made (I : Inv X pins σ H s) : Inv X pins σ (upd (upd H s.heap.objs.size (.own (s.heap.objs.size + 1))) (s.heap.objs.size + 1) (.ins C s.heap.objs.size []))
    { s with heap := (s.heap.push PySem.W.emptyDict).push (PySem.W.instObj C s.heap.objs.size) } := by
  have e1 : (s.heap.push PySem.W.emptyDict).get? s.heap.objs.size = some PySem.W.emptyDict := Heap.get?_push_size s.heap rfl
  have e2 : ((s.heap.push PySem.W.emptyDict).push (PySem.W.instObj C s.heap.objs.size)).get? (s.heap.objs.size + 1) = some (PySem.W.instObj C s.heap.objs.size) := by
    have := Heap.get?_push_size (s.heap.push PySem.W.emptyDict) (o := PySem.W.instObj C s.heap.objs.size) rfl
    rwa [Heap.size_push] at this
  have e3 : (s.heap.push PySem.W.emptyDict).Ns s.heap.objs.size (fun _ => none) := ⟨PySem.W.emptyDict, #[], _, e1, rfl, (fun e he => absurd he (by simp)), fun _ => rfl⟩
  have I1 := I.laid (a := s.heap.objs.size) (o := .own (s.heap.objs.size + 1)) (h' := s.heap.push PySem.W.emptyDict) (t' := s.toks) (fun b u q => Heap.get?_push_of_some _ q) (Nat.le_refl _) ⟨_, e1⟩
  refine I1.laid (a := s.heap.objs.size + 1) (o := .ins C s.heap.objs.size []) (t' := s.toks) (fun b u q => Heap.get?_push_of_some _ q) (Nat.le_of_eq (Heap.size_push _ _)) ?_
  have ne : s.heap.objs.size ≠ s.heap.objs.size + 1 := Nat.ne_of_lt (Nat.lt_succ_self _)
  refine ⟨by rw [upd_ne ne, upd_same], Nat.zero_le _, ne, e2, fun _ => none, (Heap.Ns1.of_empty e3).at fun o q => Heap.get?_push_of_some _ q, fun _ => True.intro, fun y hy => absurd rfl hy⟩
theorem attr_of {prog : Program} {w : World} {env : Env} {e : Expr} {f : Str} {pos : Pos} {s : Shared} {Q : Value -> Shared -> Prop} (hb : attributeBase e f env (eval e env) = eval e env)
    (h : wpAny (model prog w) A (eval e env) (fun o s₁ => wpAny (model prog w) A (getAttr o f true) Q E s₁) E s) : wpAny (model prog w) A (eval (.Attribute e f pos) env) Q E s :=
  Attribute_any_ h (by rw [arm_eval_Attribute, hb])
end
def tFld (K : PySem.W.Frag) (ta : TE) (f : Str) : TE := fun σ H Q => ta σ H fun x H1 => ∃ a C dx fs v, x = .ref a /\ H1 a = some (.ins C dx fs) /\ Cls K C /\ NoAttr K C f /\ fs.lookup f = some v /\ Q v H1
def sFld (K : PySem.W.Frag) (ta tv : TE) (f : Str) : TS := fun D σ H => tv σ H fun y H1 => ta σ H1 fun x H2 => ∃ a C dx fs, x = .ref a /\ H2 a = some (.ins C dx fs) /\ Cls K C /\ NoAttr K C f /\ fs.length < 1000 /\
  D.nx σ (upd H2 a (.ins C dx (putF f y fs)))
section
variable {X : Cx} {o e value : Expr} {f : Str} {pos pos' tpos : Pos} {ta tv : TE}
theorem pe_fld (he : PE X e ta) (hb : attributeBase e f X.env (eval e X.env) = eval e X.env) : PE X (.Attribute e f pos) (tFld X.K ta f) := by
  intro pins s σ H Q I h
  refine attr_of hb (thn (he pins s σ H _ I h) fun u s1 ⟨x, H1, I1, rx, a, C, dx, fs, v, ex, ea, c, n, l, q⟩ => ?_)
  subst ex
  obtain rfl : u = Value.ref a := rx
  exact getattr_ok I1 ea c n l fun u' s2 I2 ru => ⟨v, H1, I2, ru, q⟩
theorem ps_fld (ha : PE X o ta) (hv : PE X value tv) (hs : swapsWith value (some (.Attribute o f pos')) pos.line X.env = pure false) : PS X (.Assign [.Attribute o f pos'] value pos) (sFld X.K ta tv f) := by
  intro pins s σ H D I h
  refine plainObj_wpAny_Assign_Attribute (thn (hv pins s σ H _ I h) fun u s1 ⟨y, H1, I1, ry, q⟩ => thn (ha pins s1 σ H1 _ I1 q) fun ov s2 ⟨x, H2, I2, rx, a, C, dx, fs, ex, ea, c, n, l, q2⟩ => ?_) hs
  subst ex
  obtain rfl : ov = Value.ref a := rx
  exact setattr_ok I2 ea c n l ry fun s3 I3 => ⟨σ, _, I3, q2⟩
end
section
variable {X : Cx} {pins : List (Addr × Obj)} {σ : St} {H : Hp} {s : Shared} {A : Around} {E : Value -> Shared -> Prop} {Q : Value -> Shared -> Prop} {c : Value} {b : Bool}
inductive TyOf (K : PySem.W.Frag) (H : Hp) : V -> Value -> Prop where
  | non : TyOf K H .non (.type "NoneType")
  | bl (x : Bool) : TyOf K H (.bl x) (.type "bool")
  | int (i : Int) : TyOf K H (.int i) (.type "int")
  | str (x : Str) : TyOf K H (.str x) (.type "str")
  | flt (x : UInt64) : TyOf K H (.flt x) (.type "float")
  | lst {a : Addr} {xs : List V} (e : H a = some (.lst xs)) : TyOf K H (.ref a) (.type "list")
  | frz {a : Addr} {o : Obj} {xs : List V} (e : H a = some (.frz o (.lst xs))) : TyOf K H (.ref a) (.type "list")
  | tup {a : Addr} {xs : List V} (e : H a = some (.tup xs)) : TyOf K H (.ref a) (.type "tuple")
  | dK {a : Addr} {kvs : List (Key × V)} (e : H a = some (.dK kvs)) : TyOf K H (.ref a) (.type "dict")
  | dT {a : Addr} {kvs : List (List Key × V)} (e : H a = some (.dT kvs)) : TyOf K H (.ref a) (.type "dict")
  | ins {a C dx : Addr} {fs : List (Str × V)} (e : H a = some (.ins C dx fs)) (cl : Cls K C) (ha : PySem.W.findIn K (.ref C) "__class__" = some (some (.builtin "object.__class__")))
      (hn : PySem.W.specialIn K (.builtin "object.__class__") "__get__" = some (some (.builtin "getset_descriptor.__get__"))) (htk : PySem.W.takesIn K (.builtin "object.__class__") = some true)
      (hm : PySem.W.mroIn K C (.type "object") = some true) : TyOf K H (.ref a) (.ref C)
theorem isinst_ok {x : V} {u t : Value} (I : Inv X pins σ H s) (rx : RelV x u) (ty : TyOf X.K H x t) (e : PySem.W.kitOne X.K t c = some b) (h : ∀ tk, Q (.bool b) { s with toks := tk }) :
    wpAny (model X.prog X.w) A (call (.builtin "isinstance") [u, c]) Q E s := by
  cases ty with
  | non => cases (show u = Value.none from rx); exact PySem.W.kia_one PySem.W.kitx_none I.kIn True.intro e (fun z => nomatch z) h
  | bl y => cases (show u = Value.bool y from rx); exact PySem.W.kia_one PySem.W.kitx_bool I.kIn True.intro e (fun z => nomatch z) h
  | int i => obtain ⟨t, q⟩ := (show ∃ t, u = Value.int i t from rx); cases q; exact PySem.W.kia_one PySem.W.kitx_int I.kIn True.intro e (fun z => nomatch z) h
  | str y => obtain ⟨t, q⟩ := (show ∃ t, u = Value.str y t from rx); cases q; exact PySem.W.kia_one PySem.W.kitx_str I.kIn True.intro e (fun z => nomatch z) h
  | flt y => obtain ⟨t, q⟩ := (show ∃ t, u = Value.float y t from rx); cases q; exact PySem.W.kia_one PySem.W.kitx_float I.kIn True.intro e (fun z => nomatch z) h
  | @lst a xs ea =>
    cases (show u = Value.ref a from rx)
    obtain ⟨_, _, n, _, h1⟩ := (show ObjOk X.prog X.w H s.heap a (.lst xs) from I.hok a _ ea)
    exact PySem.W.kia_one PySem.W.kitx_list I.kIn ⟨_, h1, rfl⟩ e (fun z => nomatch z) h
  | @frz a ob xs ea =>
    cases (show u = Value.ref a from rx)
    obtain ⟨_, _, _, n, _, h1⟩ := (show ObjOk X.prog X.w H s.heap a (.frz ob (.lst xs)) from I.hok a _ ea)
    exact PySem.W.kia_one PySem.W.kitx_list I.kIn ⟨_, h1, rfl⟩ e (fun z => nomatch z) h
  | @tup a xs ea =>
    cases (show u = Value.ref a from rx)
    obtain ⟨_, _, _, p⟩ := (show ObjOk X.prog X.w H s.heap a (.tup xs) from I.hok a _ ea)
    obtain ⟨o, h1, h2, _⟩ := p
    exact PySem.W.kia_one PySem.W.kitx_tuple I.kIn ⟨o, h1, h2⟩ e (fun z => nomatch z) h
  | @dK a kvs ea =>
    cases (show u = Value.ref a from rx)
    obtain ⟨_, _, vs, _, p⟩ := (show ObjOk X.prog X.w H s.heap a (.dK kvs) from I.hok a _ ea)
    obtain ⟨o, es, ep, h1, h2, _⟩ := p
    exact PySem.W.kia_one PySem.W.kitx_dict I.kIn ⟨o, h1, h2.1⟩ e (fun z => nomatch z) h
  | @dT a kvs ea =>
    cases (show u = Value.ref a from rx)
    obtain ⟨_, _, xs, _, o, es, ep, h1, h2, _⟩ := (show ObjOk X.prog X.w H s.heap a (.dT kvs) from I.hok a _ ea)
    exact PySem.W.kia_one PySem.W.kitx_dict I.kIn ⟨o, h1, h2.1⟩ e (fun z => nomatch z) h
  | @ins a C dx fs ea cl ha hn htk hm =>
    cases (show u = Value.ref a from rx)
    obtain ⟨mA, O, _⟩ := ins_get I.hok ea
    obtain ⟨od, J, _⟩ := O.look
    exact PySem.W.kia_one (PySem.W.kitx_own (cl.get _) cl.hd ha hn htk hm) I.kIn J e (fun z => nomatch z) h
end
end L2
namespace L2
open PySem PySem.Spec PyProof.Rows
structure Room (k : Nat) (A : Around) : Prop where
  hd : A.handled = none
  dp : A.depth + 3 * k + 5 < recursionLimit
  un : A.units + 16 * k + 200 < cLine
  gd : A.guards = some []
theorem Room.mono {j k : Nat} {A : Around} (r : Room k A) (h : j <= k) : Room j A := ⟨r.hd, by have := r.dp; omega, by have := r.un; omega, r.gd⟩
theorem Room.deeper {k : Nat} {A : Around} (r : Room (k + 1) A) (env : Env) : Room k (A.deeper env) :=
  ⟨r.hd, by have := r.dp; show A.depth + 1 + 3 * k + 5 < _; omega, by have := r.un; show A.units + 3 + 16 * k + 200 < _; omega, by first | exact r.gd | (show pushGuards _ A.guards = _; rw [r.gd]; rfl)⟩
theorem make_depth {A : Around} {C : Addr} {us : List Value} {kw : List (Str × Value)} : (A.under (.builtin "type.__call__" ⟨.ref C :: us, kw⟩)).depth = A.depth + 1 := by
  first | rfl | simp [Around.under, Code.weight, Code.isCreation, Code.isGuard, Code.isCaller, Code.frames, Code.isFrame, guardIds]
theorem make_units {A : Around} {C : Addr} {us : List Value} {kw : List (Str × Value)} : (A.under (.builtin "type.__call__" ⟨.ref C :: us, kw⟩)).units = A.units + 1 := by
  first | rfl | simp [Around.under, Code.cUnits, Code.frames, Code.isFrame]
theorem make_guards {A : Around} {C : Addr} {us : List Value} {kw : List (Str × Value)} (h : A.guards = some []) : (A.under (.builtin "type.__call__" ⟨.ref C :: us, kw⟩)).guards = some [] := by
  have e : (Code.builtin "type.__call__" ⟨.ref C :: us, kw⟩).guards = [] := by
    unfold Code.guards
    have : (Code.builtin "type.__call__" ⟨.ref C :: us, kw⟩).isGuard = false := by first | rfl | decide +kernel | simp [Code.isGuard, guardIds]
    rw [this]; rfl
  unfold Around.under
  simp only [e, h]
  rfl
theorem Room.make {k : Nat} {A : Around} (r : Room (k + 1) A) (C : Addr) (us : List Value) (kw : List (Str × Value)) : Room k (A.under (.builtin "type.__call__" ⟨.ref C :: us, kw⟩)) :=
  ⟨r.hd, by have := r.dp; rw [make_depth]; omega, by have := r.un; rw [make_units]; omega, make_guards r.gd⟩
theorem Room.depth {k : Nat} {A : Around} (r : Room k A) : A.depth < recursionLimit := by have := r.dp; omega
theorem Room.units {k : Nat} {A : Around} (r : Room k A) : A.units + 64 < cLine := by have := r.un; omega
def tNil : TA := fun _ H Q => Q [] H
def tCons (ta : TE) (tr : TA) : TA := fun σ H Q => ta σ H fun x H1 => tr σ H1 fun xs H2 => Q (x :: xs) H2
section
variable {X : Cx} {e : Expr} {es : List Expr} {te : TE} {t : TA} {pos : Pos}
theorem pa_nil : PA X [] tNil := fun _ _ _ _ H Q I h => Calls.spliced_nil ⟨[], H, I, .nil, h⟩
theorem pa_cons (ha : PE X e te) (hr : PA X es t) (hs : starEach (e :: es) X.env = (false, eval e X.env) :: starEach es X.env := by rfl) : PA X (e :: es) (tCons te t) := by
  intro pos pins s σ H Q I h
  rw [hs]
  show wpAny _ _ (spliced ((false, eval e X.env) :: backTo pos (starEach es X.env))) _ _ s
  refine Calls.spliced_cons (thn (ha pins s σ H _ I h) fun u s1 ⟨x, H1, I1, r1, q1⟩ => ?_)
  exact thn (hr pos pins s1 σ H1 _ I1 q1) fun us s2 ⟨xs, H2, I2, r2, q2⟩ => ⟨x :: xs, H2, I2, .cons r1 r2, q2⟩
def tTup (t : TA) : TE := fun σ H Q => t σ H fun xs H1 => xs.length <= sizeLine /\ ∀ p, H1 p = none -> Q (.ref p) (upd H1 p (.tup xs))
def tLst (t : TA) : TE := fun σ H Q => t σ H fun xs H1 => xs.length <= sizeLine /\ ∀ p, H1 p = none -> Q (.ref p) (upd H1 p (.lst xs))
theorem pe_tup {x1} (h : PA X es t) : PE X (.Tuple es x1 pos) (tTup t) := by
  intro pins s σ H Q I hq
  refine wpAny_Tuple_spliced (thn (h pos pins s σ H _ I hq) fun us s1 ⟨xs, H1, I1, r, z, q⟩ => ⟨by rw [<- r.length]; exact z, ?_⟩)
  have hf : H1 s1.heap.objs.size = none := I1.hok.fresh (Nat.le_refl _)
  refine ⟨.ref s1.heap.objs.size, upd H1 s1.heap.objs.size (.tup xs), I1.laid (t' := s1.toks) (fun b u e => Heap.get?_push_of_some _ e) (Nat.le_refl _) ?_, rfl, q _ hf⟩
  exact ⟨z, us, r, ⟨_, Heap.get?_push_size _ rfl, rfl, _, rfl⟩⟩
theorem pe_lst (h : PA X es t) : PE X (.List es pos) (tLst t) := by
  intro pins s σ H Q I hq
  refine wpAny_List_spliced (thn (h pos pins s σ H _ I hq) fun us s1 ⟨xs, H1, I1, r, z, q⟩ => ⟨by rw [<- r.length]; exact z, ?_⟩)
  have hf : H1 s1.heap.objs.size = none := I1.hok.fresh (Nat.le_refl _)
  refine ⟨.ref s1.heap.objs.size, upd H1 s1.heap.objs.size (.lst xs), I1.laid (t' := s1.toks) (fun b u e => Heap.get?_push_of_some _ e) (Nat.le_refl _) ?_, rfl, q _ hf⟩
  exact ⟨z, us, 0, r, Heap.get?_push_size _ rfl⟩
end
abbrev Sp := List V -> Hp -> VK -> XK -> Prop
abbrev CXT := List Env -> Hp -> Shared -> XK -> Value -> Shared -> Prop
structure Env0 (P : Program) (w : World) (K : PySem.W.Frag) (mg : Str -> Option Value) (base : Heap) (A : Around) (outer : List Env) (s : Shared) (H : Hp) : Prop where
  frames : A.frames = some outer
  mod : Mod K mg base
  bs : ∀ b o, base.get? b = some o -> s.heap.get? b = some o /\ H b = none
  bsz : base.objs.size <= s.heap.objs.size
  funs : s.heap.FunFrames base outer
  frf : ∀ b ∈ frs outer, H b = none
  hok : HOk P w H s.heap
  bare : AllBare s.gens
def CE (outer : List Env) (P : Program) (w : World) (H : Hp) (s : Shared) (Q : VK) (u : Value) (s' : Shared) : Prop :=
  ∃ v H', s'.os = s.os /\ AllBare s'.gens /\ Un (frs outer) [] H H' s.heap s'.heap /\ HOk P w H' s'.heap /\ RelV v u /\ Q v H'
def CR (CX : CXT) (outer : List Env) (P : Program) (w : World) (H : Hp) (s : Shared) (Q : VK) (E : XK) (r : Result) (s' : Shared) : Prop :=
  match r with
  | .ok (.ret u) => CE outer P w H s Q u s'
  | .ok _ => False
  | .error e => CX outer H s E e s'
structure FnOk (P : Program) (w : World) (K : PySem.W.Frag) (mg : Str -> Option Value) (base : Heap) (CX : CXT) (k : Nat) (f : Addr) (fd : FuncData) (ps : List Str) (sp : Sp) : Prop where
  len : ∀ vs H Q E, sp vs H Q E -> vs.length = ps.length
  run : ∀ (A : Around) (outer : List Env) (s : Shared) (H : Hp) (args : Args) (us : List Value) (vs : List V) (Q : VK) (E : XK), Room k A -> Env0 P w K mg base A outer s H -> BindsTo s fd args (ps.zip us) -> Vals vs us -> sp vs H Q E ->
    codeAny (model P w) A (.call (.ref f) args) (CR CX outer P w H s Q E) s
theorem FnOk.mono {P : Program} {w : World} {K : PySem.W.Frag} {mg : Str -> Option Value} {base : Heap} {CX : CXT} {j k : Nat} {f : Addr} {fd : FuncData} {ps : List Str} {sp : Sp} (F : FnOk P w K mg base CX j f fd ps sp) (h : j <= k) :
    FnOk P w K mg base CX k f fd ps sp := ⟨F.len, fun A outer s H args us vs Q E hr => F.run A outer s H args us vs Q E (hr.mono h)⟩
theorem Env0.make {P : Program} {w : World} {K : PySem.W.Frag} {mg : Str -> Option Value} {base : Heap} {A : Around} {outer : List Env} {s : Shared} {H : Hp} (e : Env0 P w K mg base A outer s H) (C : Addr) (us : List Value) (kw : List (Str × Value)) :
    Env0 P w K mg base (A.under (.builtin "type.__call__" ⟨.ref C :: us, kw⟩)) outer s H := ⟨by first | exact e.frames | (simpa [Around.under, Code.envs, Code.isFrame, pushEnvs] using e.frames), e.mod, e.bs, e.bsz, e.funs, e.frf, e.hok, e.bare⟩
section
variable {X : Cx} {pins : List (Addr × Obj)} {σ : St} {H : Hp} {s s' : Shared}
theorem Inv.env0 (I : Inv X pins σ H s) : Env0 X.prog X.w X.K X.mg X.base X.A X.stack s H :=
  ⟨I.ok.frames, I.ok.mod, I.bs, Nat.le_trans I.ok.bsz I.sz, I.stack, I.stkFree, I.hok, I.bare⟩
theorem Inv.after {Q : VK} {u : Value} (I : Inv X pins σ H s) (h : CE X.stack X.prog X.w H s Q u s') : EP X pins σ Q u s' := by
  obtain ⟨v, H', os, bare, un, hok, r, q⟩ := h
  obtain ⟨hh, g, d, t, os'⟩ := s'
  obtain rfl : os' = s.os := os
  exact ⟨v, H', I.call (h' := hh) (g' := g) (d' := d) (t' := t) (ch := []) un hok bare (fun b z => absurd z (by simp)), r, q⟩
end
def tCall (sp : Sp) (dvs : List V) (E : XK) (t : TA) : TE := fun σ H Q => t σ H fun vs H1 => sp (vs ++ dvs) H1 Q E
def tMeth (C : Addr) (m : Str) (sp : Sp) (dvs : List V) (E : XK) (ta : TE) (t : TA) : TE := fun σ H Q => ta σ H fun x H1 => ∃ a dx fs, x = .ref a /\ H1 a = some (.ins C dx fs) /\ fs.lookup m = none /\
  t σ H1 fun vs H2 => sp (x :: (vs ++ dvs)) H2 Q E
def tMake (C : Addr) (sp : Sp) (dvs : List V) (E : XK) (t : TA) : TE := fun σ H Q => t σ H fun vs H1 => ∀ x dx, H1 x = none -> H1 dx = none -> dx ≠ x ->
  sp (.ref x :: (vs ++ dvs)) (upd (upd H1 dx (.own x)) x (.ins C dx [])) (fun v H2 => v = .non /\ Q (.ref x) H2) E
def Binds (K : PySem.W.Frag) (fd : FuncData) (ps : List Str) (ds : List Value) : Prop :=
  ∀ (s : Shared) (us : List Value), K.In s.heap -> (us ++ ds).length = ps.length -> BindsTo s fd ⟨us, []⟩ (ps.zip (us ++ ds))
theorem Binds.all {K : PySem.W.Frag} {fd : FuncData} {ps : List Str} (h : ∀ us : List Value, us.length = ps.length -> bindArgs fd ⟨us, []⟩ = pure (ps.zip us)) : Binds K fd ps [] := fun s us _ hl => by
  rw [List.append_nil] at hl ⊢
  exact .of_eq (h us hl)
def Passes (CX : CXT) (X : Cx) (E : XK) : Prop := ∀ (pins : List (Addr × Obj)) (σ : St) (H : Hp) (s : Shared) (e : Value) (s' : Shared), Inv X pins σ H s -> CX X.stack H s E e s' -> X.xe e s'
section
variable {X : Cx} {CX : CXT} {k : Nat} {f C : Addr} {fd : FuncData} {ps : List Str} {sp : Sp} {dvs : List V} {ds : List Value} {E : XK} {x m : Str} {p pos apos : Pos} {e o : Expr} {es : List Expr} {ta : TE} {t : TA}
theorem run_fn {pins : List (Addr × Obj)} {σ : St} {H : Hp} {s : Shared} {Q : VK} {us : List Value} {vs : List V} (F : FnOk X.prog X.w X.K X.mg X.base CX k f fd ps sp) (hr : Room k X.A) (hb : Binds X.K fd ps ds) (hd : Vals dvs ds) (hx : Passes CX X E)
    (I : Inv X pins σ H s) (r : Vals vs us) (h : sp (vs ++ dvs) H Q E) : wpAny (model X.prog X.w) X.A (call (.ref f) us) (EP X pins σ Q) X.xe s := by
  have r2 : Vals (vs ++ dvs) (us ++ ds) := r.append hd
  have hl : (us ++ ds).length = ps.length := by rw [<- r2.length]; exact F.len _ _ _ _ h
  refine wpAny_call (codeAny_mono (F.run X.A X.stack s H ⟨us, []⟩ (us ++ ds) (vs ++ dvs) Q E hr I.env0 (hb s us I.kIn hl) r2 h) fun r s' hq => ?_)
  cases r with
  | error e => exact hx pins σ H s e s' I hq
  | ok fl =>
    cases fl with
    | ret u => exact I.after hq
    | next => exact False.elim hq
    | brk => exact False.elim hq
    | cont => exact False.elim hq
theorem pe_call (F : FnOk X.prog X.w X.K X.mg X.base CX k f fd ps sp) (hr : Room k X.A) (hg : Gl X x) (hm : X.mg x = some (.ref f)) (hk : PySem.W.keepIn X.K (.ref f) = true) (hb : Binds X.K fd ps ds) (hd : Vals dvs ds) (hx : Passes CX X E)
    (ha : PA X (e :: es) t) (hdb : (x == ("__debug__" : Str)) = false := by decide) (he : starEach (e :: es) X.env = (false, eval e X.env) :: starEach es X.env := by rfl) (hpl : (backTo pos (starEach es X.env)).any (·.1) = false := by rfl) :
    PE X (.Call (.Name x p) (e :: es) [] pos) (tCall sp dvs E t) := by
  intro pins s σ H Q I h
  refine wpAny_Call_Name_kw (ld_glob I hg hm ?_ hdb)
  refine PySem.W.callWith_K (h₀ := X.base) I.ok.mod.kin hk (thn (ha pos pins s σ H _ I h) fun us s1 ⟨vs, H1, I1, r, q⟩ => ⟨I1.kIn, ?_⟩) he hpl
  exact run_fn F hr hb hd hx I1 r q
theorem pe_meth {pl : Sem Bool} (he : PE X o ta) (c : Cls X.K C) (hm : Meth X.K C m f) (F : FnOk X.prog X.w X.K X.mg X.base CX k f fd ps sp) (hr : Room k X.A) (hb : Binds X.K fd ps ds) (hd : Vals dvs ds) (hx : Passes CX X E) (ha : PA X (e :: es) t)
    (hst : starEach (e :: es) X.env = (false, eval e X.env) :: starEach es X.env := by rfl) (hpl : (backTo pos (starEach es X.env)).any (·.1) = false := by rfl)
    (ht : eval (.Call (.Attribute o m apos) (e :: es) [] pos) X.env = (do
      let ov <- eval o X.env
      standAt apos.atName
      let (f, first) <- holding [ov] (getMethod ov m pl)
      callWith pos f first (backTo pos (starEach (e :: es) X.env)) (backToKw pos (keywordEach [] X.env))) := by rfl) :
    PE X (.Call (.Attribute o m apos) (e :: es) [] pos) (tMeth C m sp dvs E ta t) := by
  intro pins s σ H Q I h
  refine PySem.W.methodCall_KW (pl := pl) (thn (he pins s σ H _ I h) fun u s1 ⟨x, H1, I1, rx, a, dx, fs, ex, ea, l, q⟩ => ?_) ht
  subst ex
  obtain rfl : u = Value.ref a := rx
  refine getmeth_ok I1 ea c hm l ?_
  refine PySem.W.callWith_K (first := [.ref a]) (h₀ := X.base) I.ok.mod.kin hm.kp (thn (ha pos pins s1 σ H1 _ I1 q) fun us s2 ⟨vs, H2, I2, r, q2⟩ => ⟨I2.kIn, ?_⟩) hst hpl
  exact run_fn (us := .ref a :: us) (vs := .ref a :: vs) F hr hb hd hx I2 (.cons rfl r) q2
theorem pe_meth0 {pl : Sem Bool} (he : PE X o ta) (c : Cls X.K C) (hm : Meth X.K C m f) (F : FnOk X.prog X.w X.K X.mg X.base CX k f fd ps sp) (hr : Room k X.A) (hb : Binds X.K fd ps ds) (hd : Vals dvs ds) (hx : Passes CX X E)
    (ht : eval (.Call (.Attribute o m apos) [] [] pos) X.env = (do
      let ov <- eval o X.env
      standAt apos.atName
      let (f, first) <- holding [ov] (getMethod ov m pl)
      callWith pos f first (backTo pos (starEach [] X.env)) (backToKw pos (keywordEach [] X.env))) := by rfl) :
    PE X (.Call (.Attribute o m apos) [] [] pos) (tMeth C m sp dvs E ta tNil) := by
  intro pins s σ H Q I h
  refine PySem.W.methodCall_KW (pl := pl) (thn (he pins s σ H _ I h) fun u s1 ⟨x, H1, I1, rx, a, dx, fs, ex, ea, l, q⟩ => ?_) ht
  subst ex
  obtain rfl : u = Value.ref a := rx
  refine getmeth_ok I1 ea c hm l ?_
  exact PySem.W.callWith_K0 (first := [.ref a]) I1.kIn hm.kp (run_fn (us := [.ref a]) (vs := [.ref a]) F hr hb hd hx I1 (.cons rfl .nil) q)
structure Mk (K : PySem.W.Frag) (C f : Addr) : Prop where
  makes : PySem.W.makesIn K C = true
  init : PySem.W.findIn K (.ref C) "__init__" = some (some (.ref f))
  fn : PySem.W.isFn K (.ref f) = true
  kp : PySem.W.keepIn K (.ref C) = true
theorem run_make {pins : List (Addr × Obj)} {σ : St} {H : Hp} {s : Shared} {Q : VK} {us : List Value} {vs : List V} (M : Mk X.K C f) (F : FnOk X.prog X.w X.K X.mg X.base CX k f fd ps sp) (hr : Room (k + 1) X.A) (hb : Binds X.K fd ps ds) (hd : Vals dvs ds)
    (hx : Passes CX X E) (I : Inv X pins σ H s) (r : Vals vs us)
    (h : ∀ x dx, H x = none -> H dx = none -> dx ≠ x -> sp (.ref x :: (vs ++ dvs)) (upd (upd H dx (.own x)) x (.ins C dx [])) (fun v H2 => v = .non /\ Q (.ref x) H2) E) :
    wpAny (model X.prog X.w) X.A (call (.ref C) us) (EP X pins σ Q) X.xe s := by
  have hq := h (s.heap.objs.size + 1) s.heap.objs.size (I.hok.fresh (Nat.le_succ _)) (I.hok.fresh (Nat.le_refl _)) (Nat.ne_of_lt (Nat.lt_succ_self _))
  have I2 := Inv.made (C := C) I
  have r2 : Vals (V.ref (s.heap.objs.size + 1) :: (vs ++ dvs)) (Value.ref (s.heap.objs.size + 1) :: (us ++ ds)) := .cons rfl (r.append hd)
  have hl : (Value.ref (s.heap.objs.size + 1) :: us ++ ds).length = ps.length := by
    have e := r2.length
    rw [F.len _ _ _ _ hq] at e
    exact e.symm
  refine wpAny_call (make_map (f := f) I.kIn M.makes M.init (beq_iff_eq.mp M.fn) (codeAny_mono (F.run _ X.stack _ _ ⟨Value.ref (s.heap.objs.size + 1) :: us, []⟩ (Value.ref (s.heap.objs.size + 1) :: (us ++ ds)) _ _ E (hr.make C us [])
    (I2.env0.make C us []) (hb _ (Value.ref (s.heap.objs.size + 1) :: us) I2.kIn hl) r2 hq) fun r s' hq' => ?_))
  cases r with
  | error e => exact hx pins σ _ _ e s' I2 hq'
  | ok fl =>
    cases fl with
    | ret u =>
      obtain ⟨v, H', I3, rv, ev, q3⟩ := I2.after hq'
      subst ev
      exact ⟨rv, ⟨V.ref (s.heap.objs.size + 1), H', I3, rfl, q3⟩⟩
    | next => exact False.elim hq'
    | brk => exact False.elim hq'
    | cont => exact False.elim hq'
theorem pe_make0 (M : Mk X.K C f) (F : FnOk X.prog X.w X.K X.mg X.base CX k f fd ps sp) (hr : Room (k + 1) X.A) (hg : Gl X x) (hm : X.mg x = some (.ref C)) (hb : Binds X.K fd ps ds) (hd : Vals dvs ds) (hx : Passes CX X E)
    (hdb : (x == ("__debug__" : Str)) = false := by decide) : PE X (.Call (.Name x p) [] [] pos) (tMake C sp dvs E tNil) := by
  intro pins s σ H Q I h
  refine wpAny_Call_Name_kw (ld_glob I hg hm ?_ hdb)
  exact PySem.W.callWith_K0 I.kIn M.kp (run_make (us := []) M F hr hb hd hx I .nil h)
end
section
variable {X : Cx} {CX : CXT} {k : Nat} {f C : Addr} {fd : FuncData} {ps ks : List Str} {sp : Sp} {E : XK} {x m : Str} {p pos apos kpos : Pos} {e o : Expr} {es : List Expr} {kws : List Keyword} {te ta : TE} {t tk : TA} {nm : Option Str}
variable {g : List Value -> List Value -> List Value} {gV : List V -> List V -> List V}
end
structure FnScope (N P : List Str) (sc : Scope) : Prop where
  kind : sc.kind = .function
  co : sc.isCoroutine = false
  gen : sc.isGenerator = false
  nd : N.Nodup
  pre : N.take P.length = P
  par : ∀ x ∈ P, sc.names.lookup x = some .local \/ sc.names.lookup x = some .cell
  nofree : ∀ y ∈ sc.names, y.2 ≠ .free
theorem bindL_out {kindOf : Str -> Option NameKind} {x : Str} : ∀ {binds : List (Str × Value)} {m : Str -> Option Value}, (∀ v, (x, v) ∉ binds) -> bindL kindOf binds m x = m x
  | [], _, _ => rfl
  | (n, v) :: r, m, h => by
    unfold bindL
    rw [bindL_out fun w hw => h w (List.mem_cons_of_mem _ hw)]
    split
    · have : x ≠ n := by rintro rfl; exact h v List.mem_cons_self
      simp [this]
    · rfl
theorem bindC_out {kindOf : Str -> Option NameKind} {x : Str} : ∀ {binds : List (Str × Value)} {m : Str -> Option Value}, (∀ v, (x, v) ∉ binds) -> bindC kindOf binds m x = m x
  | [], _, _ => rfl
  | (n, v) :: r, m, h => by
    unfold bindC
    rw [bindC_out fun w hw => h w (List.mem_cons_of_mem _ hw)]
    split
    · rfl
    · have : x ≠ n := by rintro rfl; exact h v List.mem_cons_self
      simp [this]
theorem bindL_get {kindOf : Str -> Option NameKind} {x : Str} {v : Value} : ∀ {P : List Str} {vs : List Value} {i : Nat} {m : Str -> Option Value}, P.Nodup -> P[i]? = some x -> vs[i]? = some v -> kindOf x = some .local ->
    bindL kindOf (P.zip vs) m x = some v
  | [], _, _, _, _, h, _, _ => by simp at h
  | _ :: _, [], _, _, _, _, h, _ => by simp at h
  | p :: P, w :: vs, 0, m, nd, h1, h2, hk => by
    simp at h1 h2; subst h1; subst h2
    show bindL kindOf ((p, w) :: P.zip vs) m p = _
    unfold bindL
    rw [bindL_out fun v hv => (List.nodup_cons.mp nd).1 (List.of_mem_zip hv).1, if_pos hk]
    simp
  | p :: P, w :: vs, i + 1, m, nd, h1, h2, hk => by
    show bindL kindOf ((p, w) :: P.zip vs) m x = _
    unfold bindL
    exact bindL_get (i := i) (List.nodup_cons.mp nd).2 (by simpa using h1) (by simpa using h2) hk
theorem bindC_get {kindOf : Str -> Option NameKind} {x : Str} {v : Value} : ∀ {P : List Str} {vs : List Value} {i : Nat} {m : Str -> Option Value}, P.Nodup -> P[i]? = some x -> vs[i]? = some v -> kindOf x ≠ some .local ->
    bindC kindOf (P.zip vs) m x = some v
  | [], _, _, _, _, h, _, _ => by simp at h
  | _ :: _, [], _, _, _, _, h, _ => by simp at h
  | p :: P, w :: vs, 0, m, nd, h1, h2, hk => by
    simp at h1 h2; subst h1; subst h2
    show bindC kindOf ((p, w) :: P.zip vs) m p = _
    unfold bindC
    rw [bindC_out fun v hv => (List.nodup_cons.mp nd).1 (List.of_mem_zip hv).1, if_neg hk]
    simp
  | p :: P, w :: vs, i + 1, m, nd, h1, h2, hk => by
    show bindC kindOf ((p, w) :: P.zip vs) m x = _
    unfold bindC
    exact bindC_get (i := i) (List.nodup_cons.mp nd).2 (by simpa using h1) (by simpa using h2) hk
def start (N : List Str) (vs : List V) : St := vs.map some ++ List.replicate (N.length - vs.length) none
def cxOf (CX : CXT) (P : Program) (w : World) (K : PySem.W.Frag) (mg : Str -> Option Value) (base : Heap) (N : List Str) (qual : Str) (scope : Scope) (f : Addr) (cd : Value) (A : Around) (outer : List Env) (s : Shared) (H : Hp) (E : XK) : Cx where
  prog := P
  w := w
  K := K
  mg := mg
  base := base
  A := A.deeper (envOfC qual scope s.heap.objs.size f cd)
  N := N
  s₀ := s
  H₀ := H
  env := envOfC qual scope s.heap.objs.size f cd
  outer := outer
  stack := envOfC qual scope s.heap.objs.size f cd :: outer
  ex := []
  calm := true
  fn := fun _ => true
  pn := []
  xe := fun e s' => wpAny (model P w) (A.deeper (envOfC qual scope s.heap.objs.size f cd)) (leaving (envOfC qual scope s.heap.objs.size f cd) e) (fun _ s'' => CX outer H s E e s'') (fun e' s'' => CX outer H s E e' s'') s'
theorem cell_has {sc : Scope} {n : Nat} {x : Str} (h : sc.names.lookup x = some .cell) : ∃ c, (cellsFrom n sc.names []).lookup x = some c := by
  have q := PySem.W.cellsFrom_some sc.names n [] (.inl h)
  exact Option.isSome_iff_exists.mp q
theorem inv_start {CX : CXT} {P : Program} {w : World} {K : PySem.W.Frag} {mg : Str -> Option Value} {base : Heap} {N ps : List Str} {qual : Str} {scope : Scope} {f : Addr} {cd : Value} {A : Around} {outer : List Env} {s s1 : Shared} {H : Hp} {E : XK} {us : List Value} {vs : List V}
    (S : FnScope N ps scope) (hd : A.handled = none) (e0 : Env0 P w K mg base A outer s H) (hl : vs.length = ps.length) (r : Vals vs us)
    (x : InCallC s s.heap.objs.size (bindL (envOfC qual scope s.heap.objs.size f cd).kindOf (ps.zip us) fun _ => none) (cellsFrom (s.heap.objs.size + 1) scope.names []) (bindC (envOfC qual scope s.heap.objs.size f cd).kindOf (ps.zip us) fun _ => none) s1) :
    Inv (cxOf CX P w K mg base N qual scope f cd A outer s H E) [] (start N vs) H s1 := by
  have hpl : ps.length <= N.length := by have := congrArg List.length S.pre; rw [List.length_take] at this; omega
  obtain ⟨h1, tk, rfl, hk⟩ := x.done
  have noA : ∀ b : Addr, b ∉ (cxOf CX P w K mg base N qual scope f cd A outer s H E).ex := fun b z => absurd (show b ∈ ([] : List Addr) from z) (by simp)
  refine ⟨⟨e0.mod, S.kind, rfl, rfl, Nat.le_refl _, fun y z c h1 h2 => ?_, fun y hy => ?_, fun y c _ h => ?_, fun _ => hd, Around.frames_deeper e0.frames, .inr ⟨rfl, rfl⟩, fun b z => absurd z (noA b), e0.bs, e0.bsz, fun b _ _ => noA b, fun b z => absurd z (noA b), e0.funs, e0.frf⟩,
    rfl, e0.bare, Un.kept hk, ⟨_, x.toInCall.ns, fun i y v h1 h2 h3 => ?_⟩, fun y c h => ⟨_, x.cell y c h⟩, e0.hok.fresh (Nat.le_refl _), fun y c h => ?_, fun p hp => absurd (show p ∈ ([] : List (Addr × Obj)) from hp) (by simp), e0.hok.kept hk, ?_⟩
  · exact name_of_addr x.apart (PySem.mem_of_lookup h1) (PySem.mem_of_lookup h2)
  · have hy : scope.names.lookup y = some .cell \/ scope.names.lookup y = some .free := hy
    rcases hy with hy | hy
    · exact cell_has hy
    · exact absurd rfl (S.nofree _ (PySem.mem_of_lookup hy))
  · exact Nat.le_of_lt (x.above y c (PySem.mem_of_lookup h))
  · have hi : i < vs.length := by
      unfold start at h2
      by_cases hi : i < vs.length
      · exact hi
      · rw [List.getElem?_append_right (by simpa using hi)] at h2
        rw [List.getElem?_replicate] at h2
        split at h2 <;> cases h2
    have ha : vs[i]? = some v := by
      unfold start at h2
      rw [List.getElem?_append_left (by simpa using hi), List.getElem?_map] at h2
      cases e : vs[i]? with
      | none => rw [e] at h2; cases h2
      | some a => rw [e] at h2; cases h2; rfl
    obtain ⟨u, hu, rv⟩ := r.get ha
    have hp : ps[i]? = some y := by
      rw [<- S.pre, List.getElem?_take_of_lt (by omega)]; exact h1
    have ndP : ps.Nodup := by rw [<- S.pre]; exact S.nd.sublist (List.take_sublist _ _)
    refine ⟨u, rv, ?_⟩
    rcases S.par y (List.mem_of_getElem? hp) with k | k
    · exact .inl ⟨k, bindL_get ndP hp hu k⟩
    · obtain ⟨c, e⟩ := cell_has (n := s.heap.objs.size + 1) k
      refine .inr ⟨.inl k, c, e, ?_⟩
      have q := x.cell y c e
      rw [bindC_get ndP hp hu (by show scope.names.lookup y ≠ _; rw [k]; decide)] at q
      exact q
  · exact e0.hok.fresh (Nat.le_of_lt (x.above y c (PySem.mem_of_lookup h)))
  · unfold start
    show _ = N.length
    rw [List.length_append, List.length_map, List.length_replicate]
    omega
theorem fn_of {CX : CXT} {P : Program} {w : World} {K : PySem.W.Frag} {mg : Str -> Option Value} {base : Heap} {k : Nat} {f : Addr} {name qual : Str} {params : Arguments} {body : List Stmt} {scope : Scope} {dV kV doc pm cdv ct oc : Value} {an od : Option Addr}
    {osl : Array (Option Value)} {N ps : List Str} {sp : Sp} (lk : K.lookup f = some ⟨oc, od, .func (PySem.W.fnOf name qual params body scope dV kV doc pm an cdv ct), osl⟩) (hcd : PySem.W.codeIn K cdv qual = true) (S : FnScope N ps scope)
    (len : ∀ vs H Q E, sp vs H Q E -> vs.length = ps.length)
    (hbody : ∀ (A : Around) (outer : List Env) (s : Shared) (H : Hp) (vs : List V) (Q : VK) (E : XK), Room k (A.deeper (envOfC qual scope s.heap.objs.size f cdv)) -> sp vs H Q E ->
      ∃ t, PSs (cxOf CX P w K mg base N qual scope f cdv A outer s H E) body t /\ t { nx := fun _ H' => Q .non H', rt := Q } (start N vs) H) :
    FnOk P w K mg base CX (k + 1) f (PySem.W.fnOf name qual params body scope dV kV doc pm an cdv ct) ps sp := by
  refine ⟨len, fun A outer s H args us vs Q E hr e0 hb r hsp => ?_⟩
  have hl := len _ _ _ _ hsp
  have KX : K.In s.heap := e0.mod.kin.keeps fun b o e => (e0.bs b o e).1
  have lim : s.heap.NoLimit := e0.mod.nolimit.keeps fun b o e => (e0.bs b o e).1
  have hkind : ∀ y ∈ ps.zip us, scope.names.lookup y.1 = some .local \/ (scope.names.lookup y.1 = some .cell /\ ((cellsFrom (s.heap.objs.size + 1) scope.names []).lookup y.1).isSome = true) := fun ⟨n, v⟩ hy => by
    rcases S.par n (List.of_mem_zip hy).1 with q | q
    · exact .inl q
    · exact .inr ⟨q, PySem.W.cellsFrom_some _ _ _ (.inl q)⟩
  refine codeAny_call_function hr.depth (KX _ _ lk) rfl S.co S.gen rfl (PySem.W.codeRec_of KX hcd) (hb _ _ _ _ ?_)
  refine wpAny_newFunctionEnv_cells S.kind hkind fun env he s1 x => ?_
  subst he
  refine ⟨lim.keeps x.toInCall.keep, codeAny_func ?_⟩
  obtain ⟨t, ht, hq⟩ := hbody A outer s H vs Q E (hr.deeper _) hsp
  have I : Inv (cxOf CX P w K mg base N qual scope f cdv A outer s H E) [] (start N vs) H s1 := inv_start S hr.hd e0 hl r x
  refine wpAny_mono (ht [] s1 (start N vs) H _ I hq) (fun fl s' hs => ?_) fun e s' hs => hs
  have fin : ∀ {σ' : St} {H' : Hp} {v : V} {u : Value}, Inv (cxOf CX P w K mg base N qual scope f cdv A outer s H E) [] σ' H' s' -> RelV v u -> Q v H' -> CE outer P w H s Q u s' :=
    fun {σ' H' v u} J rv q => ⟨v, H', J.os, J.bare, J.base, J.hok, rv, q⟩
  cases fl with
  | ret u =>
    obtain ⟨v, σ', H', J, rv, q⟩ := hs
    exact fin J rv q
  | next =>
    obtain ⟨σ', H', J, q⟩ := hs
    exact fin (v := V.non) (u := Value.none) J rfl q
  | brk =>
    obtain ⟨_, _, _, q⟩ := hs
    exact False.elim q
  | cont =>
    obtain ⟨_, _, _, q⟩ := hs
    exact False.elim q
end L2
namespace L2
open PySem PySem.Spec PyProof.Rows
section
variable {X : Cx} {x : Str} {p pos : Pos} {e : Expr} {es : List Expr} {t : TA} {id T : String} {r : List V -> Hp -> VK -> Prop}
def tCB (r : List V -> Hp -> VK -> Prop) (t : TA) : TE := fun σ H Q => t σ H fun vs H1 => r vs H1 Q
theorem pe_callB (hc : CallR X (.builtin id) r) (hg : Gl X x) (hm : X.mg x = none) (hv : bootBuiltins x = some (.builtin id)) (ha : PA X (e :: es) t) (hn : x ≠ "__name__" := by decide) (hdb : (x == ("__debug__" : Str)) = false := by decide)
    (he : starEach (e :: es) X.env = (false, eval e X.env) :: starEach es X.env := by rfl) (hpl : (backTo pos (starEach es X.env)).any (·.1) = false := by rfl) : PE X (.Call (.Name x p) (e :: es) [] pos) (tCB r t) := by
  intro pins s σ H Q I h
  refine wpAny_Call_Name_kw (ld_blt I hg hm hv ?_ hn hdb)
  exact PyProof.Rows.callWith_builtin1 (thn (ha pos pins s σ H _ I h) fun us s1 ⟨vs, H1, I1, r1, q1⟩ => hc pins s1 σ H1 vs us Q I1 r1 q1) he hpl
theorem pe_callTy (hc : CallR X (.type T) r) (hg : Gl X x) (hm : X.mg x = none) (hv : bootBuiltins x = some (.type T)) (ha : PA X (e :: es) t) (hn : x ≠ "__name__" := by decide) (hdb : (x == ("__debug__" : Str)) = false := by decide)
    (he : starEach (e :: es) X.env = (false, eval e X.env) :: starEach es X.env := by rfl) (hpl : (backTo pos (starEach es X.env)).any (·.1) = false := by rfl) : PE X (.Call (.Name x p) (e :: es) [] pos) (tCB r t) := by
  intro pins s σ H Q I h
  refine wpAny_Call_Name_kw (ld_blt I hg hm hv ?_ hn hdb)
  exact PyProof.Rows.callWith_type1 (thn (ha pos pins s σ H _ I h) fun us s1 ⟨vs, H1, I1, r1, q1⟩ => hc pins s1 σ H1 vs us Q I1 r1 q1) he hpl
end
end L2
namespace HT
open PySem PyProof.Rows
section
open PySem.SeqAt
open PySem.AutoSeq1 (wpAny_loadPart')
open PySem.MeetsSeq PySem.MeetsSeq2 PySem.MeetsSeq3
end
section
variable {prog : Program} {w : World} {A : Around} {E : Value -> Shared -> Prop} {s : Shared}
def sIx (n d : Nat) : Option Int -> Nat
  | none => d
  | some v => if v < 0 then (v + (n : Int)).toNat else min v.toNat n
theorem sIx_none (n d : Nat) : sIx n d none = d := rfl
theorem sIx_nat (n d k : Nat) : sIx n d (some (k : Int)) = min k n := by
  show (if (k : Int) < 0 then ((k : Int) + (n : Int)).toNat else min (k : Int).toNat n) = min k n
  rw [if_neg (by omega), Int.toNat_natCast]
end
end HT
namespace L2
open PySem PySem.Spec PyProof.Rows
abbrev TO := St -> Hp -> (Option Int -> Hp -> Prop) -> Prop
def PO (X : Cx) (e : Option Expr) (t : TO) : Prop :=
  ∀ (pins : List (Addr × Obj)) (s : Shared) (σ : St) (H : Hp) (Q : Option Int -> Hp -> Prop), Inv X pins σ H s -> t σ H Q ->
    wpAny (model X.prog X.w) X.A (evalPart e X.env) (fun u s' => ∃ o H', Inv X pins σ H' s' /\ IsPart u o /\ Q o H') X.xe s
def tNoPart : TO := fun _ H Q => Q none H
def tPart (t : TE) : TO := fun σ H Q => t σ H fun x H1 => ∃ i, x = .int i /\ Q (some i) H1
theorem intsAre_of {ns : List Int} : ∀ {us : List Value}, Vals (ns.map V.int) us -> IntsAre us ns := by
  induction ns with
  | nil => intro us r; rw [List.map_nil] at r; cases r; exact .nil
  | cons n ns ih =>
    intro us r
    rw [List.map_cons] at r
    cases r with
    | cons r1 r2 =>
      obtain ⟨t, e⟩ := r1
      subst e
      exact .cons n t (ih r2)
section
variable {X : Cx} {e : Expr} {te : TE} {lo hi : Option Expr} {tl th : TO} {pos p2 : Pos}
theorem po_none : PO X none tNoPart := by
  intro pins s σ H Q I h
  rw [evalPart_none]
  exact wpAny_pure ⟨none, H, I, .none, h⟩
theorem po_some (h : PE X e te) : PO X (some e) (tPart te) := by
  intro pins s σ H Q I hw
  rw [evalPart_some]
  refine thn (h pins s σ H _ I hw) fun u s1 ⟨x, H1, I1, r1, q1⟩ => ?_
  obtain ⟨i, rfl, q⟩ := q1
  obtain ⟨t, rfl⟩ := r1
  exact ⟨some i, H1, I1, .int i t, q⟩
def SlR (X : Cx) (r : V -> Option Int -> Option Int -> Hp -> VK -> Prop) : Prop :=
  ∀ (pins : List (Addr × Obj)) (s : Shared) (σ : St) (H : Hp) (x : V) (v vl vu : Value) (lo hi : Option Int) (sl : Addr) (Q : VK), Inv X pins σ H s -> RelV x v -> s.heap.IsSliceOf sl vl vu .none -> IsPart vl lo -> IsPart vu hi -> r x lo hi H Q ->
    ∃ T id, typeLookup (.type T) "__getitem__" = pure (some (.builtin id)) /\ s.TypeIs v T /\ wpAny (model X.prog X.w) X.A (getItem v (.ref sl)) (EP X pins σ Q) X.xe s
def tSl (r : V -> Option Int -> Option Int -> Hp -> VK -> Prop) (te : TE) (tl th : TO) : TE := fun σ H Q => te σ H fun x H1 => tl σ H1 fun l H2 => th σ H2 fun u H3 => r x l u H3 Q
theorem pe_slice {r : V -> Option Int -> Option Int -> Hp -> VK -> Prop} (hr : SlR X r) (he : PE X e te) (hl : PO X lo tl) (hu : PO X hi th) : PE X (.Subscript e (.Slice lo hi none p2) pos) (tSl r te tl th) := by
  intro pins s σ H Q I h
  refine Subscript_ (thn (he pins s σ H _ I h) fun v s1 ⟨x, H1, I1, r1, q1⟩ => ?_)
  refine wpAny_Slice (thn (hl pins s1 σ H1 _ I1 q1) fun vl s2 ⟨l, H2, I2, pl, q2⟩ => thn (hu pins s2 σ H2 _ I2 q2) fun vu s3 ⟨u, H3, I3, pu, q3⟩ => ?_)
  rw [evalPart_none]
  refine wpAny_pure ?_
  have I4 : Inv X pins σ H3 { s3 with heap := s3.heap.push { cls := .type "slice", data := .fields #[vl, vu, .none] } } := I3.kept (t' := s3.toks) fun b ob q => Heap.get?_push_of_some _ q
  obtain ⟨T, id, hT, ht, hg⟩ := hr pins { s3 with heap := s3.heap.push { cls := .type "slice", data := .fields #[vl, vu, .none] } } σ H3 x v vl vu l u s3.heap.objs.size Q I4 r1 (Heap.IsSliceOf.new ..) pl pu q3
  show wpAny (model X.prog X.w) X.A (subscriptTail e (.Slice lo hi none p2) v (.ref s3.heap.objs.size)) (EP X pins σ Q) X.xe { s3 with heap := s3.heap.push { cls := .type "slice", data := .fields #[vl, vu, .none] } }
  exact tail_any (ops := [.ref s3.heap.objs.size, v]) ht hT hg (by with_unfolding_all rfl)
def cutV (xs : List V) (lo hi : Option Int) : List V := (xs.drop (HT.sIx xs.length 0 lo)).take (HT.sIx xs.length xs.length hi - HT.sIx xs.length 0 lo)
theorem cutV_length (xs : List V) (lo hi : Option Int) : (cutV xs lo hi).length <= xs.length := by
  unfold cutV
  rw [List.length_take, List.length_drop]
  omega
theorem Vals.nil_iff {xs : List V} {us : List Value} (r : Vals xs us) : us = [] ↔ xs = [] := by
  cases r with
  | nil => simp
  | cons _ _ => simp
end
end L2
namespace L2
open PySem PySem.Spec PyProof.Rows
def ixN (n : Nat) (i : Int) : Option Nat := if 0 <= i then (if i < n then some i.toNat else none) else if -(n : Int) <= i then some (i + n).toNat else none
def atI {α : Type} (xs : List α) (i : Int) : Option α := (ixN xs.length i).bind fun j => xs[j]?
theorem ixN_seq {n : Nat} {i : Int} {j : Nat} (h : ixN n i = some j) : seqIndex? i n = some j /\ j < n /\ -(n : Int) <= i /\ i < n := by
  unfold ixN at h
  by_cases h0 : 0 <= i
  · rw [if_pos h0] at h
    by_cases h1 : i < n
    · rw [if_pos h1] at h
      have e : i.toNat = j := Option.some.inj h
      exact ⟨by rw [seqIndex_of h0 h1, e], by omega, by omega, h1⟩
    · rw [if_neg h1] at h; cases h
  · rw [if_neg h0] at h
    by_cases h1 : -(n : Int) <= i
    · rw [if_pos h1] at h
      have e : (i + n).toNat = j := Option.some.inj h
      exact ⟨by rw [seqIndex_neg (by omega) h1, e], by omega, h1, by omega⟩
    · rw [if_neg h1] at h; cases h
theorem atI_get {α : Type} {xs : List α} {i : Int} {v : α} (h : atI xs i = some v) : ∃ j, seqIndex? i xs.length = some j /\ xs[j]? = some v /\ j < xs.length /\ -(xs.length : Int) <= i /\ i < xs.length := by
  unfold atI at h
  cases e : ixN xs.length i with
  | none => rw [e] at h; cases h
  | some j =>
    rw [e] at h
    obtain ⟨h1, h2, h3, h4⟩ := ixN_seq e
    exact ⟨j, h1, h, h2, h3, h4⟩
theorem atI_nat {α : Type} {xs : List α} {j : Nat} {v : α} (h : xs[j]? = some v) : atI xs (j : Int) = some v := by
  have hj : j < xs.length := (List.getElem?_eq_some_iff.mp h).1
  have e : ixN xs.length (j : Int) = some j := by
    unfold ixN
    rw [if_pos (by omega), if_pos (by omega)]; simp
  unfold atI; rw [e]; exact h
theorem atI_last {α : Type} (xs : List α) (v : α) : atI (xs ++ [v]) (-1) = some v := by
  have hl : (xs ++ [v]).length = xs.length + 1 := by simp
  have e : ixN (xs ++ [v]).length (-1) = some xs.length := by
    unfold ixN
    rw [hl, if_neg (by decide), if_pos (by omega)]
    congr 1
    omega
  unfold atI
  rw [e]
  show (xs ++ [v])[xs.length]? = some v
  simp
def PlainIx (b : Expr) : Prop := ∀ o i, subscripted b false o i = operate [o, i] (getItem o i)
def IxR (X : Cx) (r : R2) : Prop :=
  ∀ (value slice : Expr) (pins : List (Addr × Obj)) (s : Shared) (σ : St) (H : Hp) (x y : V) (v u : Value) (Q : VK), Inv X pins σ H s -> RelV x v -> RelV y u -> r x y H Q ->
    subscripted slice false v u = operate [v, u] (getItem v u) -> wpAny (model X.prog X.w) X.A (subscriptTail value slice v u) (EP X pins σ Q) X.xe s
def MtR (X : Cx) (id : String) (r : V -> List V -> Hp -> VK -> Prop) : Prop :=
  ∀ (pins : List (Addr × Obj)) (s : Shared) (σ : St) (H : Hp) (x : V) (xs : List V) (v : Value) (us : List Value) (Q : VK), Inv X pins σ H s -> RelV x v -> Vals xs us -> r x xs H Q ->
    wpAny (model X.prog X.w) X.A (call (.builtin id) (v :: us)) (EP X pins σ Q) X.xe s
section
variable {X : Cx} {a b : Expr} {ta tb : TE} {pos : Pos}
theorem pe_ix {r : R2} (hr : IxR X r) (ha : PE X a ta) (hb : PE X b tb) (hs : PlainIx b) : PE X (.Subscript a b pos) (tOp r ta tb) := by
  intro pins s σ H Q I h
  exact Subscript_ (binT ha hb I h fun v u s2 x y H2 I2 rx ry q => hr a b pins s2 σ H2 x y v u Q I2 rx ry q (hs _ _))
def rIxL (K : PySem.W.Frag) : R2 := fun x y H Q => ∃ p xs i v, x = .ref p /\ y = .int i /\ SqL K H p xs /\ atI xs i = some v /\ Q v H
def rIxT (K : PySem.W.Frag) : R2 := fun x y H Q => ∃ p xs i v, x = .ref p /\ y = .int i /\ SqT K H p xs /\ atI xs i = some v /\ Q v H
def rIxS : R2 := fun x y H Q => ∃ z i c, x = .str z /\ y = .int i /\ z.length <= sizeLine /\ atI z.cps.toList i = some c /\ Q (.str ⟨#[c]⟩) H
theorem ix_list : IxR X (rIxL X.K) := by
  intro value slice pins s σ H x y v u Q I rx ry h hs
  obtain ⟨p, xs, i, z, rfl, rfl, hq, he, q⟩ := h
  cases rx
  obtain ⟨t, rfl⟩ := ry
  obtain ⟨its, r, pl, hz⟩ := I.list hq
  obtain ⟨j, h1, h2, h3, h4, h5⟩ := atI_get he
  obtain ⟨w, ew, rw'⟩ := r.get h2
  have hl := r.length
  have hn := line63
  have fin : EP X pins σ Q w s := ⟨z, H, I, rw', q⟩
  by_cases h0 : 0 <= i
  · have hj : i.toNat = j := by
      rw [seqIndex_of h0 h5] at h1
      exact Option.some.inj h1
    exact item_listR pl.isList h0 (by omega) (by rw [hj]; simpa using ew) fin hs
  · have hj : (i + (its.toArray.size : Int)).toNat = j := by
      rw [seqIndex_neg (by omega) h4] at h1
      rw [List.size_toArray, <- hl]
      exact Option.some.inj h1
    exact subscriptTail_builtinR (x := w) pl.isList.typeIs slot_list_getitem.lookup
      (wpAny_getItem_list_neg (Q := fun r s' => r = w /\ EP X pins σ Q r s') pl.isList (by omega) (by rw [List.size_toArray] <;> omega) (by omega) (by rw [hj]; simpa using ew) ⟨rfl, fin⟩) hs
theorem ix_tup : IxR X (rIxT X.K) := by
  intro value slice pins s σ H x y v u Q I rx ry h hs
  obtain ⟨p, xs, i, z, rfl, rfl, hq, he, q⟩ := h
  cases rx
  obtain ⟨t, rfl⟩ := ry
  obtain ⟨its, r, pl, hz⟩ := I.tuple hq
  obtain ⟨j, h1, h2, h3, h4, h5⟩ := atI_get he
  obtain ⟨w, ew, rw'⟩ := r.get h2
  have hl := r.length
  have hn := line63
  have fin : EP X pins σ Q w s := ⟨z, H, I, rw', q⟩
  exact subscriptTail_builtinR (x := w) pl.typeIs slot_tuple_getitem.lookup
    (getItem_tuple (j := j) (Q := fun r s' => r = w /\ EP X pins σ Q r s') pl (by omega) (by omega) (by rw [List.size_toArray, <- hl]; exact h1) (by simpa using ew) ⟨rfl, fin⟩) hs
theorem ix_str : IxR X rIxS := by
  intro value slice pins s σ H x y v u Q I rx ry h hs
  obtain ⟨z, i, c, rfl, rfl, hz, he, q⟩ := h
  obtain ⟨t, rfl⟩ := rx
  obtain ⟨t', rfl⟩ := ry
  obtain ⟨j, h1, h2, h3, h4, h5⟩ := atI_get he
  have hl : z.cps.toList.length = z.length := by simp [Str.length]
  rw [hl] at h1 h4 h5
  have hn := line63
  exact tail_any (typeIs_str s z t) slot_str_getitem.lookup (getItem_str (c := c) (by
    have e1 : decide (i < -(2 ^ 63 : Int)) = false := decide_eq_false (by omega)
    have e2 : decide (i >= 2 ^ 63) = false := decide_eq_false (by omega)
    rw [e1, e2, Bool.or_false]) (by rw [h1]; simpa using h2) ⟨.str ⟨#[c]⟩, H, I.tok _, ⟨_, rfl⟩, q⟩) hs
theorem mapSeq_set (its : List Value) (n j : Nat) (u : Value) : Obj.mapSeq (·.setIfInBounds j u) { cls := .type "list", data := .seq its.toArray n } = { cls := .type "list", data := .seq (its.set j u).toArray n } := by
  simp [Obj.mapSeq]
theorem Inv.lst {pins : List (Addr × Obj)} {σ : St} {H : Hp} {s : Shared} {p : Addr} {xs : List V} (I : Inv X pins σ H s) (h : H p = some (.lst xs)) :
    ∃ (its : List Value) (n : Nat), Vals xs its /\ s.heap.get? p = some { cls := .type "list", data := .seq its.toArray n } /\ xs.length <= sizeLine := by
  obtain ⟨z, its, n, r, e⟩ := I.hok p _ h
  exact ⟨its, n, r, e, z⟩
theorem Inv.lstUpd {pins : List (Addr × Obj)} {σ : St} {H : Hp} {s : Shared} {p : Addr} {xs ys : List V} {its its' : List Value} {n n' : Nat} {f : Obj -> Obj} (I : Inv X pins σ H s) (h : H p = some (.lst xs))
    (ho : s.heap.get? p = some { cls := .type "list", data := .seq its.toArray n }) (hf : f { cls := .type "list", data := .seq its.toArray n } = { cls := .type "list", data := .seq its'.toArray n' }) (r : Vals ys its') (hz : ys.length <= sizeLine) (t : Nat) :
    Inv X pins σ (upd H p (.lst ys)) { s with heap := s.heap.update p f, toks := t } := by
  have e : (s.heap.update p f).get? p = some { cls := .type "list", data := .seq its'.toArray n' } := by
    rw [Heap.get?_update_self f ho (by rw [hf] <;> rfl), hf]
  refine I.write (x := p) (e := p) (by rw [h]; trivial) (.inl rfl) (fun b u hb q => (Heap.get?_update_other _ _ (Ne.symm hb)).trans q) ⟨_, e⟩ ?_
  exact ⟨hz, its', n', r, e⟩
def rSetL : V -> V -> V -> Hp -> (Hp -> Prop) -> Prop := fun o i v H Q => ∃ p xs k j, o = .ref p /\ i = .int k /\ H p = some (.lst xs) /\ ixN xs.length k = some j /\ Q (upd H p (.lst (xs.set j v)))
theorem set_list : PSet X rSetL := by
  intro pins s σ H o i v ov iv u Q I ro ri rv h
  obtain ⟨p, xs, k, j, rfl, rfl, hp, hj, q⟩ := h
  cases ro
  obtain ⟨t, rfl⟩ := ri
  obtain ⟨its, n, r, ho, hz⟩ := I.lst hp
  obtain ⟨h1, h2, h3, h4⟩ := ixN_seq hj
  have hl := r.length
  have hn := line63
  have I' : Inv X pins σ (upd H p (.lst (xs.set j v))) { s with heap := s.heap.update p (Obj.mapSeq (·.setIfInBounds j u)) } :=
    I.lstUpd hp ho (mapSeq_set its n j u) (r.set rv j) (by rw [List.length_set]; exact hz) s.toks
  by_cases h0 : 0 <= k
  · have hk : k.toNat = j := by
      rw [seqIndex_of h0 h4] at h1
      exact Option.some.inj h1
    exact PySem.W.ki_setAt ho h0 (by omega) (by rw [List.size_toArray, <- hl]; exact h4) (by rw [hk]; exact ⟨_, I', q⟩)
  · have hk : (k + (its.toArray.size : Int)).toNat = j := by
      rw [seqIndex_neg (by omega) h3] at h1
      rw [List.size_toArray, <- hl]
      exact Option.some.inj h1
    exact PySem.W.ki_setBack ho (by omega) (by rw [List.size_toArray, <- hl]; exact h3) (by omega) (by rw [hk]; exact ⟨_, I', q⟩)
theorem slice_bounds (lo hi : Option Int) (n : Nat) : (sliceBounds lo hi none n).1 = ((HT.sIx n 0 lo : Nat) : Int) /\ (sliceBounds lo hi none n).2.1 = ((HT.sIx n n hi : Nat) : Int) /\ (sliceBounds lo hi none n).2.2 = 1 := by
  refine ⟨?_, ?_, rfl⟩
  · cases lo with
    | none => simp [sliceBounds, HT.sIx]
    | some i =>
      simp only [sliceBounds, HT.sIx, Option.getD_none, show (1 : Int) > 0 by decide, if_true]
      by_cases h : i < 0
      · simp only [h, if_true] <;> omega
      · simp only [h, if_false] <;> omega
  · cases hi with
    | none => simp [sliceBounds, HT.sIx]
    | some i =>
      simp only [sliceBounds, HT.sIx, Option.getD_none, show (1 : Int) > 0 by decide, if_true]
      by_cases h : i < 0
      · simp only [h, if_true] <;> omega
      · simp only [h, if_false] <;> omega
theorem slicePick_cut (its : List Value) (lo hi : Option Int) : slicePick its.toArray lo hi none = ((its.drop (HT.sIx its.length 0 lo)).take (HT.sIx its.length its.length hi - HT.sIx its.length 0 lo)).toArray := by
  obtain ⟨h1, h2, h3⟩ := slice_bounds lo hi its.toArray.size
  unfold slicePick
  rw [h1, h2, h3]
  simp only [sliceRange_one, pick_run, List.size_toArray] <;> rfl
def rSlL (K : PySem.W.Frag) : V -> Option Int -> Option Int -> Hp -> VK -> Prop := fun x lo hi H Q => ∃ a xs, x = .ref a /\ SqL K H a xs /\ ∀ p, H p = none -> Q (.ref p) (upd H p (.lst (cutV xs lo hi)))
theorem sl_list : SlR X (rSlL X.K) := by
  intro pins s σ H x v vl vu lo hi sl Q I rx hs pl pu h
  obtain ⟨a, xs, rfl, hx, q⟩ := h
  cases rx
  obtain ⟨its, r, ht, hz⟩ := I.list hx
  have hlen := r.length
  refine ⟨"list", _, slot_list_getitem.lookup, ht.isList.typeIs, ?_⟩
  refine wpAny_getItem_list_slice ht.isList hs pl pu .none (by simp) ?_ (by rw [List.size_toArray] <;> omega)
  rw [slicePick_cut, <- hlen]
  refine ⟨.ref s.heap.objs.size, _, I.laid (t' := s.toks) (o := .lst (cutV xs lo hi)) (fun b ob q => Heap.get?_push_of_some _ q) (Nat.le_refl _) ?_, rfl, q _ (I.hok.fresh (Nat.le_refl _))⟩
  exact ⟨Nat.le_trans (cutV_length xs lo hi) hz, _, 0, (r.drop (HT.sIx xs.length 0 lo)).take (HT.sIx xs.length xs.length hi - HT.sIx xs.length 0 lo), Heap.get?_push_size _ rfl⟩
def flatV : V -> Bool
  | .non => true
  | .bl _ => true
  | .int _ => true
  | .str _ => true
  | _ => false
def eqV : V -> V -> Bool
  | .non, .non => true
  | .bl a, .bl b => a == b
  | .bl a, .int b => (if a then 1 else 0) == b
  | .int a, .bl b => a == (if b then 1 else 0)
  | .int a, .int b => a == b
  | .str a, .str b => a == b
  | _, _ => false
theorem eqAt_V {A : Around} {s : Shared} {y x : V} {u v : Value} (ry : RelV y u) (rx : RelV x v) (fy : flatV y = true) (fx : flatV x = true) : SeqAt.EqAt A s u v (eqV y x) := by
  cases y with
  | non =>
    cases ry
    cases x with
    | non => cases rx; exact SeqAt.EqAt.same _
    | bl b => cases rx; exact SeqAt.EqAt.none_bool b
    | int b => obtain ⟨t, rfl⟩ := rx; exact SeqAt.EqAt.none_int b t
    | str b => obtain ⟨t, rfl⟩ := rx; exact SeqAt.EqAt.none_str b t
    | _ => exact absurd (show false = true from fx) Bool.false_ne_true
  | bl a =>
    cases ry
    cases x with
    | non => cases rx; exact SeqAt.EqAt.bool_none a
    | bl b => cases rx; exact SeqAt.EqAt.bool_bool a b
    | int b => obtain ⟨t, rfl⟩ := rx; exact SeqAt.EqAt.bool_int a b t
    | str b => obtain ⟨t, rfl⟩ := rx; exact SeqAt.EqAt.bool_str a b t
    | _ => exact absurd (show false = true from fx) Bool.false_ne_true
  | int a =>
    obtain ⟨t', rfl⟩ := ry
    cases x with
    | non => cases rx; exact SeqAt.EqAt.int_none a t'
    | bl b => cases rx; exact SeqAt.EqAt.int_bool a t' b
    | int b => obtain ⟨t, rfl⟩ := rx; exact SeqAt.EqAt.int_int a t' b t
    | str b => obtain ⟨t, rfl⟩ := rx; exact SeqAt.EqAt.int_str a t' b t
    | _ => exact absurd (show false = true from fx) Bool.false_ne_true
  | str a =>
    obtain ⟨t', rfl⟩ := ry
    cases x with
    | non => cases rx; exact SeqAt.EqAt.str_none a t'
    | bl b => cases rx; exact SeqAt.EqAt.str_bool a t' b
    | int b => obtain ⟨t, rfl⟩ := rx; exact SeqAt.EqAt.str_int a t' b t
    | str b => obtain ⟨t, rfl⟩ := rx; exact SeqAt.EqAt.str_str a t' b t
    | _ => exact absurd (show false = true from fx) Bool.false_ne_true
  | _ => exact absurd (show false = true from fy) Bool.false_ne_true
def eqU (x : V) (u : Value) : Bool := match u with
  | .none => eqV .non x
  | .bool b => eqV (.bl b) x
  | .int i _ => eqV (.int i) x
  | .str z _ => eqV (.str z) x
  | _ => false
theorem eqU_of {x y : V} {u : Value} (r : RelV y u) (f : flatV y = true) : eqU x u = eqV y x := by
  cases y with
  | non => cases r; rfl
  | bl b => cases r; rfl
  | int i => obtain ⟨t, rfl⟩ := r; rfl
  | str z => obtain ⟨t, rfl⟩ := r; rfl
  | _ => exact absurd (show false = true from f) Bool.false_ne_true
theorem any_eqU {x : V} : ∀ {xs : List V} {us : List Value}, Vals xs us -> xs.all flatV = true -> us.any (eqU x) = xs.any fun y => eqV y x
  | _, _, .nil, _ => rfl
  | y :: xs, u :: us, .cons r t, f => by
    rw [List.all_cons, Bool.and_eq_true] at f
    rw [List.any_cons, List.any_cons, eqU_of r f.1, any_eqU t f.2]
theorem mem_eqAt {A : Around} {s : Shared} {x : V} {v : Value} (rx : RelV x v) (fx : flatV x = true) : ∀ {xs : List V} {us : List Value}, Vals xs us -> xs.all flatV = true -> ∀ u ∈ us, SeqAt.EqAt A s u v (eqU x u)
  | _, _, .nil, _ => fun u hu => by cases hu
  | y :: xs, u :: us, .cons r t, f => fun u' hu => by
    rw [List.all_cons, Bool.and_eq_true] at f
    rcases List.mem_cons.mp hu with rfl | hu
    · rw [eqU_of r f.1]; exact eqAt_V r rx f.1 fx
    · exact mem_eqAt rx fx t f.2 u' hu
def inV (x : V) (xs : List V) : Bool := xs.any fun y => eqV y x
def rIn (K : PySem.W.Frag) (neg : Bool) : R2 := fun x y H Q => ∃ p xs, y = .ref p /\ (SqL K H p xs \/ SqT K H p xs) /\ flatV x = true /\ xs.all flatV = true /\ Q (.bl (if neg then !inV x xs else inV x xs)) H
theorem op_in_seq : OpR X (compareOp .In) (rIn X.K false) := by
  intro pins s σ H x y v u Q I rx ry h
  obtain ⟨p, xs, rfl, hq, fx, fs, q⟩ := h
  cases ry
  rcases hq with hq | hq
  · obtain ⟨its, r, pl, hz⟩ := I.list hq
    refine SeqAt.in_listAt (eqU x) pl.isList (fun w hw => mem_eqAt rx fx r fs w (by simpa using hw)) ⟨.bl _, H, I, rfl, ?_⟩
    rw [show its.toArray.any (eqU x) = its.any (eqU x) by simp, any_eqU r fs]
    exact q
  · obtain ⟨its, r, pl, hz⟩ := I.tuple hq
    refine SeqAt.in_tupleAt (eqU x) pl (fun w hw => mem_eqAt rx fx r fs w (by simpa using hw)) ⟨.bl _, H, I, rfl, ?_⟩
    rw [show its.toArray.any (eqU x) = its.any (eqU x) by simp, any_eqU r fs]
    exact q
theorem call_len_seq : CallR X (.builtin "len") (fun xs H Q => ∃ p ys, xs = [.ref p] /\ (SqL X.K H p ys \/ SqT X.K H p ys) /\ Q (.int ys.length) H) := by
  intro pins s σ H xs us Q I r h
  obtain ⟨p, ys, rfl, hq, q⟩ := h
  obtain ⟨u, rfl, rx⟩ := vals1 r
  cases rx
  have hn := line63
  rcases hq with hq | hq
  · obtain ⟨its, r', pl, hz⟩ := I.list hq
    have hlen := r'.length
    exact Calls.call_len_list pl.isList (by simp only [List.size_toArray] <;> omega) ⟨.int ys.length, H, I.tok _, ⟨s.toks + 1, by rw [List.size_toArray, hlen]⟩, q⟩
  · obtain ⟨its, r', pl, hz⟩ := I.tuple hq
    have hlen := r'.length
    exact len_tuple pl (by simp only [List.size_toArray] <;> omega) ⟨.int ys.length, H, I.tok _, ⟨s.toks + 1, by rw [List.size_toArray, hlen]⟩, q⟩
theorem call_len_str : CallR X (.builtin "len") (fun xs H Q => ∃ z, xs = [.str z] /\ z.length <= sizeLine /\ Q (.int z.length) H) := by
  intro pins s σ H xs us Q I r h
  obtain ⟨z, rfl, hz, q⟩ := h
  obtain ⟨u, rfl, t, rfl⟩ := vals1 r
  have hn := line63
  exact len_str (by omega) ⟨.int z.length, H, I.tok _, ⟨_, rfl⟩, q⟩
theorem CallR.or {f : Value} {r r' : List V -> Hp -> VK -> Prop} (h : CallR X f r) (h' : CallR X f r') : CallR X f (fun xs H Q => r xs H Q \/ r' xs H Q) := by
  intro pins s σ H xs us Q I rs q
  rcases q with q | q
  · exact h pins s σ H xs us Q I rs q
  · exact h' pins s σ H xs us Q I rs q
theorem call_tuple_of : CallR X (.type "tuple") (fun xs H Q => ∃ p ys, xs = [.ref p] /\ ((SqL X.K H p ys /\ ∀ l, H l = none -> Q (.ref l) (upd H l (.tup ys))) \/ (SqT X.K H p ys /\ Q (.ref p) H))) := by
  intro pins s σ H xs us Q I r h
  obtain ⟨p, ys, rfl, h⟩ := h
  obtain ⟨u, rfl, rx⟩ := vals1 r
  cases rx
  rcases h with ⟨hq, q⟩ | ⟨hq, q⟩
  · obtain ⟨its, r', pl, hz⟩ := I.list hq
    have hlen := r'.length
    refine call_tuple_list pl.isList (fun h' kp => ?_) (by simp only [List.size_toArray] <;> omega)
    have I1 : Inv X pins σ H { s with heap := h' } := I.kept (t' := s.toks) kp
    have I2 : Inv X pins σ (upd H h'.objs.size (.tup ys)) { s with heap := h'.push { cls := .type "tuple", data := .seq its.toArray } } :=
      I1.laid (t' := s.toks) (fun b o e => Heap.get?_push_of_some _ e) (Nat.le_refl _) (show ObjOk X.prog X.w _ _ _ (.tup ys) from ⟨hz, its, r', IsTup.new _ _⟩)
    exact ⟨.ref h'.objs.size, _, I2, rfl, q _ (I1.hok.fresh (Nat.le_refl _))⟩
  · obtain ⟨its, r', pl, hz⟩ := I.tuple hq
    exact call_tuple_same pl ⟨.ref p, H, I, rfl, q⟩
def tyV (K : PySem.W.Frag) (T : String) (x : V) (H : Hp) : Prop := match x with
  | .str _ => T = "str"
  | .int _ => T = "int"
  | .ref p => (T = "list" /\ ∃ xs, SqL K H p xs) \/ (T = "tuple" /\ ∃ o, K.lookup p = some o /\ o.cls = .type "tuple" /\ o.dict = none) \/
      (T = "dict" /\ ((∃ kvs, H p = some (.dK kvs)) \/ ∃ kvs, H p = some (.dT kvs))) \/ (T = "set" /\ ∃ S n, H p = some (.set S n))
  | _ => False
theorem tyV_is {pins : List (Addr × Obj)} {σ : St} {H : Hp} {s : Shared} {T : String} {x : V} {v : Value} (I : Inv X pins σ H s) (r : RelV x v) (ty : tyV X.K T x H) :
    s.TypeIs v T /\ ∀ a, v = .ref a -> ∃ ob, s.heap.get? a = some ob /\ ob.dict = none := by
  cases x with
  | str z =>
    obtain ⟨t, rfl⟩ := r
    cases (show T = "str" from ty)
    exact ⟨typeIs_str s z t, fun _ e => nomatch e⟩
  | int i =>
    obtain ⟨t, rfl⟩ := r
    cases (show T = "int" from ty)
    exact ⟨typeIs_int s i t, fun _ e => nomatch e⟩
  | ref p =>
    cases r
    rcases ty with ⟨rfl, xs, hq⟩ | ⟨rfl, o, hk, hc, hd⟩ | ⟨rfl, hk⟩ | ⟨rfl, S, n, hk⟩
    · obtain ⟨its, _, pl, _⟩ := I.list hq
      refine ⟨pl.isList.typeIs, fun a e => ?_⟩
      cases e
      obtain ⟨o, n, e, c, hd, _⟩ := pl
      exact ⟨o, e, hd⟩
    · refine ⟨⟨o, I.kIn p o hk, hc⟩, fun a e => ?_⟩
      cases e
      exact ⟨o, I.kIn _ o hk, hd⟩
    · have z : ∃ o, s.heap.get? p = some o /\ o.ExactDict := by
        rcases hk with ⟨kvs, hk⟩ | ⟨kvs, hk⟩
        · obtain ⟨_, _, _, _, o, _, _, e, ex, _⟩ := I.hok p _ hk
          exact ⟨o, e, ex⟩
        · obtain ⟨_, _, _, _, o, _, _, e, ex, _⟩ := I.hok p _ hk
          exact ⟨o, e, ex⟩
      obtain ⟨o, e, ex⟩ := z
      refine ⟨⟨o, e, ex.1⟩, fun a e2 => ?_⟩
      cases e2
      exact ⟨o, e, ex.2.1⟩
    · obtain ⟨o, _, _, _, e, ex, _⟩ := I.hok p _ hk
      refine ⟨⟨o, e, ex.1⟩, fun a e2 => ?_⟩
      cases e2
      exact ⟨o, e, ex.2.1⟩
  | _ => exact False.elim ty
def tBM0 (K : PySem.W.Frag) (T : String) (r : V -> List V -> Hp -> VK -> Prop) (to : TE) : TE := fun σ H Q => to σ H fun x H1 => tyV K T x H1 /\ r x [] H1 Q
def tBM (K : PySem.W.Frag) (T : String) (r : V -> List V -> Hp -> VK -> Prop) (to : TE) (t : TA) : TE := fun σ H Q => to σ H fun x H1 => tyV K T x H1 /\ t σ H1 fun xs H2 => r x xs H2 Q
variable {o e : Expr} {es : List Expr} {to : TE} {t : TA} {name : Str} {apos cpos : Pos} {T id : String} {r : V -> List V -> Hp -> VK -> Prop}
theorem pe_bm0 (pa : PlainAttrs T) (slot : Slot T name id) (hty : typeOf (.builtin id) = pure (.type "method_descriptor")) (hm : MtR X id r) (ho : PE X o to)
    (hbase : attributeBase o name X.env (eval o X.env) = eval o X.env := by rfl) (hline : (apos.endLine == cpos.line) = true := by rfl) : PE X (.Call (.Attribute o name apos) [] [] cpos) (tBM0 X.K T r to) := by
  intro pins s σ H Q I h
  refine wpAny_Call_method0_late hbase hline (thn (ho pins s σ H _ I h) fun v s1 ⟨x, H1, I1, r1, ty, q1⟩ => ?_)
  obtain ⟨h1, h2⟩ := tyV_is I1 r1 ty
  exact ⟨T, id, pa, slot, hty, h1, h2, Calls.callWith_builtin rfl (PySem.evalArgs_none (hm pins s1 σ H1 x [] v [] Q I1 r1 .nil q1))⟩
theorem pe_bm (pa : PlainAttrs T) (slot : Slot T name id) (hty : typeOf (.builtin id) = pure (.type "method_descriptor")) (hm : MtR X id r) (ho : PE X o to) (ha : PA X (e :: es) t)
    (hbase : attributeBase o name X.env (eval o X.env) = eval o X.env := by rfl)
    (hfew : ((backTo cpos (starEach (e :: es) X.env)).all (fun x => !x.1) && (backToKw cpos (keywordEach [] X.env)).all (fun x => x.1.isSome)
      && decide ((e :: es).length + ([] : List Keyword).length + (if ([] : List Keyword).isEmpty then 0 else 1) < 30)) = true := by rfl)
    (hline : (apos.endLine == cpos.line) = true := by rfl) (hs : starEach (e :: es) X.env = (false, eval e X.env) :: starEach es X.env := by rfl) (hplain : (backTo cpos (starEach es X.env)).any (·.1) = false := by rfl) :
    PE X (.Call (.Attribute o name apos) (e :: es) [] cpos) (tBM X.K T r to t) := by
  intro pins s σ H Q I h
  refine wpAny_Call_method_late hbase hfew hline rfl (thn (ho pins s σ H _ I h) fun v s1 ⟨x, H1, I1, r1, ty, q1⟩ => ?_)
  obtain ⟨h1, h2⟩ := tyV_is I1 r1 ty
  refine ⟨T, id, pa, slot, hty, h1, h2, ?_⟩
  have hA := ha cpos pins s1 σ H1 _ I1 q1
  rw [hs] at hA ⊢
  refine Calls.callWith_builtin (by show (false || (backTo cpos (starEach es X.env)).any (·.1)) = false; rw [hplain] <;> rfl) (Calls.evalArgs_plain ?_)
  exact thn hA fun us s2 ⟨vs, H2, I2, r2, q2⟩ => hm pins s2 σ H2 x vs v us Q I2 r1 r2 q2
end
end L2
namespace L2
open PySem PySem.Spec PyProof.Rows
def MtM (X : Cx) (id : String) (r : V -> List V -> Hp -> VK -> Prop) : Prop :=
  ∀ (pins : List (Addr × Obj)) (s : Shared) (σ : St) (H : Hp) (x : V) (xs : List V) (v : Value) (us : List Value) (Q : VK), Inv X pins σ H s -> RelV x v -> Vals xs us -> r x xs H Q ->
    wpAny (model X.prog X.w) X.A (call (.builtin id) (v :: us)) (EP X pins σ Q) X.xe s
theorem Vals.one : ∀ {x : V} {us : List Value}, Vals [x] us -> ∃ u, us = [u] /\ RelV x u
  | _, _, .cons r .nil => ⟨_, rfl, r⟩
theorem Vals.zero : ∀ {us : List Value}, Vals [] us -> us = []
  | _, .nil => rfl
theorem Vals.dropLast {xs : List V} {us : List Value} (h : Vals xs us) : Vals xs.dropLast us.dropLast := by
  induction h with
  | nil => exact .nil
  | cons r t ih =>
    cases t with
    | nil => exact .nil
    | cons q t' => exact .cons r ih
theorem Vals.reverse {xs : List V} {us : List Value} (h : Vals xs us) : Vals xs.reverse us.reverse := by
  induction h with
  | nil => exact .nil
  | cons r t ih => rw [List.reverse_cons, List.reverse_cons]; exact Vals.append ih (.cons r .nil)
theorem erase_last {α : Type} (l : List α) : l.eraseIdx (l.length - 1) = l.dropLast := by
  induction l with
  | nil => rfl
  | cons a r ih =>
    cases r with
    | nil => rfl
    | cons b r =>
      have e : (a :: b :: r).length - 1 = ((b :: r).length - 1) + 1 := by
        have h1 : (a :: b :: r).length = r.length + 2 := rfl
        have h2 : (b :: r).length = r.length + 1 := rfl
        omega
      rw [e, List.eraseIdx_cons_succ, ih]
      all_goals rfl
section
variable {X : Cx} {pins : List (Addr × Obj)} {σ : St} {H : Hp} {s : Shared} {l b : Addr} {xs ys zs : List V}
theorem Inv.lset {its its' : List Value} {n : Nat} {f : Array Value -> Array Value} {t' : Nat} (I : Inv X pins σ H s) (hH : H l = some (.lst xs))
    (e : s.heap.get? l = some { cls := .type "list", data := .seq its.toArray n }) (hf : f its.toArray = its'.toArray) (hv : Vals ys its') (hz : ys.length <= sizeLine) :
    Inv X pins σ (upd H l (.lst ys)) { s with heap := s.heap.update l (Obj.mapSeq f), toks := t' } := by
  have q := PySem.IsL.update e f
  rw [hf] at q
  refine I.write (x := l) (e := l) (by rw [hH]; exact trivial) (.inl rfl) (fun b' u hb hu => (Heap.get?_update_other s.heap (Obj.mapSeq f) (Ne.symm hb)).trans hu) ⟨_, q⟩ ?_
  exact ⟨hz, its', _, hv, q⟩
theorem Inv.lnew {its : List Value} {t' : Nat} (I : Inv X pins σ H s) (hv : Vals ys its) (hz : ys.length <= sizeLine) :
    Inv X pins σ (upd H s.heap.objs.size (.lst ys)) { s with heap := s.heap.push { cls := .type "list", data := .seq its.toArray }, toks := t' } :=
  I.laid (fun _ _ q => Heap.get?_push_of_some _ q) (Nat.le_refl _) ⟨hz, its, 0, hv, Heap.get?_push_size _ rfl⟩
theorem Inv.fresh (I : Inv X pins σ H s) : H s.heap.objs.size = none := I.hok.fresh (Nat.le_refl _)
theorem Inv.lstM (I : Inv X pins σ H s) (hH : H l = some (.lst xs)) : xs.length <= sizeLine /\ ∃ (its : List Value) (n : Nat), Vals xs its /\ xs.length = its.length /\ s.heap.get? l = some { cls := .type "list", data := .seq its.toArray n } := by
  obtain ⟨z, its, n, r, e⟩ := I.hok l _ hH
  exact ⟨z, its, n, r, r.length, e⟩
end
section
variable {X : Cx}
def rAppend : V -> List V -> Hp -> VK -> Prop := fun x vs H Q => ∃ l xs y, x = .ref l /\ vs = [y] /\ H l = some (.lst xs) /\ xs.length < sizeLine /\ Q .non (upd H l (.lst (xs ++ [y])))
theorem mt_append : MtM X "list.append" rAppend := by
  intro pins s σ H x vs v us Q I rx rv h
  obtain ⟨l, xs, y, rfl, rfl, hH, hz, q⟩ := h
  cases rx
  obtain ⟨u, rfl, ru⟩ := rv.one
  obtain ⟨z, its, n, r, hl, e⟩ := I.lstM hH
  refine call_meets F.slot_list_append ⟨_, e, rfl⟩ F.entry_list_append (F.args_list_append_2 _ _) (PySem.list_append l its.toArray n u (by rw [List.size_toArray]; omega)) ⟨e, ?_⟩
  refine ⟨.non, _, I.lset (its' := its ++ [u]) hH e (by simp) (r.append (.cons ru .nil)) ?_, rfl, q⟩
  rw [List.length_append, List.length_singleton]
  omega
def rPop : V -> List V -> Hp -> VK -> Prop := fun x vs H Q => ∃ l xs y, x = .ref l /\ vs = [] /\ H l = some (.lst xs) /\ xs[xs.length - 1]? = some y /\ Q y (upd H l (.lst xs.dropLast))
theorem mt_pop : MtM X "list.pop" rPop := by
  intro pins s σ H x vs v us Q I rx rv h
  obtain ⟨l, xs, y, rfl, rfl, hH, hy, q⟩ := h
  cases rx
  have hus := rv.zero
  subst hus
  obtain ⟨z, its, n, r, hl, e⟩ := I.lstM hH
  obtain ⟨u, hu, ru⟩ := r.get hy
  have hy' : its.toArray[its.toArray.size - 1]? = some u := by
    show its.toArray[its.length - 1]? = some u
    rw [<- Array.getElem?_toList, <- hl]
    exact hu
  refine call_meets F.slot_list_pop ⟨_, e, rfl⟩ F.entry_list_pop (F.args_list_pop_1 _) (MeetsSeq.list_pop_last l its.toArray n u hy' (by rw [List.size_toArray]; omega)) ⟨e, ?_⟩
  refine ⟨y, _, I.lset (its' := its.dropLast) hH e ?_ r.dropLast ?_, ru, q⟩
  · show its.toArray.eraseIdxIfInBounds (its.toArray.size - 1) = its.dropLast.toArray
    rw [List.size_toArray, List.eraseIdxIfInBounds_toArray, erase_last]
  · rw [List.length_dropLast]
    omega
def rCat : R2 := fun x y H Q => ∃ l b xs zs, x = .ref l /\ y = .ref b /\ H l = some (.lst xs) /\ H b = some (.lst zs) /\ xs.length + zs.length <= sizeLine /\ ∀ p, H p = none -> Q (.ref p) (upd H p (.lst (xs ++ zs)))
theorem op_cat : OpR X (binaryOp .Add) rCat := by
  intro pins s σ H x y v u Q I rx ry h
  obtain ⟨l, b, xs, zs, rfl, rfl, hH, hB, hz, q⟩ := h
  cases rx
  cases ry
  obtain ⟨z, its, n, r, hl, e⟩ := I.lstM hH
  obtain ⟨z2, its2, n2, r2, hl2, e2⟩ := I.lstM hB
  refine PySem.P.add_list e e2 ?_ (by rw [List.size_toArray, List.size_toArray]; omega)
  have ea : its.toArray ++ its2.toArray = (its ++ its2).toArray := by simp
  rw [ea]
  exact ⟨.ref _, _, I.lnew (t' := s.toks) (r.append r2) (by rw [List.length_append]; omega), rfl, q _ I.fresh⟩
end
section
variable {prog : Program} {w : World} {A : Around} {E : Value -> Shared -> Prop} {s : Shared}
end
section
variable {X : Cx}
end
end L2
namespace Att
open PySem PySem.W PySem.Calls PyProof.Rows
theorem ints_of_wellAll {P : Params} {h : Heap} : ∀ (ns : List Int) (vs : List Value), WellAll P h vs (ns.map WData.int) -> IntsAre vs ns := by
  intro ns
  induction ns with
  | nil =>
    intro vs w
    rw [List.map_nil] at w
    cases w
    exact .nil
  | cons n ns ih =>
    intro vs w
    rw [List.map_cons] at w
    cases w with
    | cons a b =>
      cases a
      exact .cons _ _ (ih _ b)
theorem script_of {l : OpenLaw} {n : Nat} (hn : l.most = some n) {P : Params} {h : Heap} {args : List WData} {vals : List Value}
    (hpre : l.row.toRowW.claim.pre args = true) (hwl : WellAll P h vals args) :
    ∃ a vs ns, vals = [Value.ref a] /\ args = [WData.list (ns.map WData.int)] /\ h.get? a = some { cls := .type "list", data := .seq vs.toArray } /\ IntsAre vs ns /\ ns.length <= n := by
  have hsh : WShape.hasAll [] args [.list .int] = true := (pre_splitW hpre).1
  have hc : l.pre.holds [] { args := args } = true := (pre_splitW hpre).2
  obtain ⟨d, r, rfl, h1, h2⟩ := hasAllW_cons hsh
  obtain rfl := hasAllW_nil h2
  obtain ⟨xs, rfl, h3⟩ := hasW_list h1
  obtain ⟨ns, rfl⟩ := items_int h3
  have hlen : ns.length <= n := by
    unfold OpenLaw.pre at hc
    have h4 : (WTm.not (.lt (.lit (.int (n : Int))) (.len (.arg 0)))).holds [] { args := [.list (ns.map .int)] } = true := by
      have h4 := (holds_andW hc).1
      rw [hn] at h4
      exact h4
    have h5 := condW_of h4 (w_not (w_lt w_lit (w_len_list (w_arg rfl))))
    rw [List.length_map] at h5
    refine Nat.le_of_not_lt fun q => ?_
    have q' : (n : Int) < ((ns.length : Nat) : Int) := by omega
    first
      | (rw [decide_eq_true q'] at h5; exact absurd h5 (by decide))
      | (simp at h5; omega)
  cases hwl with
  | cons w1 w2 =>
    cases w2
    cases w1 with
    | list ho hall => exact ⟨_, _, ns, rfl, rfl, ho, ints_of_wellAll ns _ hall, hlen⟩
theorem post_true (l : OpenLaw) (args : List WData) : l.row.toRowW.claim.post args (.bool true) args = true :=
  postW_of (r := l.row.toRowW) (X := (true == true))
    (show WShape.has [] (.bool true) .bool = true by first | rfl | decide | simp [WShape.has, WShape.arms, WShape.armsAll])
    (show (WTm.eq .res (.lit (.bool true))).value [] { args := args, res := some (.bool true), after := args } = some (.bool (true == true)) from w_eq_bool (w_res rfl) w_lit) rfl
theorem attach_call {l : OpenLaw} {n : Nat} {q : Program} {loose : List Str} {XP : (Str -> Option Value) -> Heap -> Prop} {YP : World -> Heap -> Prop} {d : DefRec}
    (hn : l.most = some n) (hdf : d.params.defaults = [])
    (call : ∀ (w : World) (s₀ s₁ : Shared) (mg mb : Str -> Option Value) (fa : Addr) (o : Obj) (pm cd doc : Value) (a : Addr) (vs : List Value) (ns : List Int),
      Ground q loose [] XP w s₀ mg mb s₁.heap -> YP w s₁.heap ->
      s₁.heap.get? fa = some o -> o.data = .func (docDef d.name d.params d.body d.scope pm cd doc) -> s₁.heap.CodeRec cd d.name -> mg d.name = some (.ref fa) ->
      s₁.heap.get? a = some { cls := .type "list", data := .seq vs.toArray } -> IntsAre vs ns -> ns.length <= n -> s₁.gens = #[] ->
      codeAny (model l.prog w) callerA (.call (.ref fa) ⟨[.ref a], []⟩) (fun r s' => r = .ok (.ret (.bool true)) /\ OldK s₁.heap s'.heap /\ s'.os = s₁.os /\ AllBare s'.gens) s₁) :
    WalkO q loose XP YP l.row.toRowW d [] (fun f vs => PySem.call f vs) := by
  intro w s₀ s₁ mg mb G Y fa o pm cd doc dV kV ho hd hcd hD hmg hg args vals as hpre hlay hrd hwl hlo
  obtain rfl : dV = .none := Dflts.none hD hdf
  obtain rfl : kV = .none := Dflts.noKw hD
  obtain ⟨a, vs, ns, rfl, rfl, hobj, hints, hlen⟩ := script_of hn hpre hwl
  refine enter_call (codeAny_mono (call w s₀ s₁ mg mb fa o pm cd doc a vs ns G Y ho (fd_plain hd) hcd hmg hobj hints hlen hg) fun r s' hq => ?_)
  obtain ⟨rfl, h2, h3, h4⟩ := hq
  exact ⟨.inl ⟨.bool true, .bool true, [], rfl, fun _ => rfl, .bool true, post_true l _, fun _ => ⟨List.Pairwise.nil, fun _ hm => (nomatch hm)⟩⟩, h2, h3, h4⟩
section
variable {prog : Program} {w : World} {A : Around} {E : Value -> Shared -> Prop} {s : Shared} {K : Frag}
end
end Att
namespace L2
open PySem PySem.Spec PyProof.Rows
theorem vals_ints : ∀ {vs : List Value} {ns : List Int}, IntsAre vs ns -> Vals (ns.map V.int) vs
  | _, _, .nil => .nil
  | _, _, .cons n t h => .cons ⟨t, rfl⟩ (vals_ints h)
def Only (H : Hp) : Prop := ∀ b, H b = none \/ ∃ o xs, H b = some (.frz o (.lst xs))
theorem law_call {P : Program} {w : World} {K : PySem.W.Frag} {mg mb : Str -> Option Value} {CX : CXT} {k : Nat} {fa a : Addr} {fd : FuncData} {x : Str} {sp : Sp} {s₁ : Shared} {vs : List Value} {ns : List Int}
    (KX : K.In s₁.heap) (hns : s₁.heap.Ns mainGlobals mg) (hb : s₁.heap.Ns builtinsNs mb) (hbb : ∀ x : Str, x ≠ "__name__" -> mb x = bootBuiltins x) (hlim : s₁.heap.NoLimit) (hg : s₁.gens = #[])
    (ha : s₁.heap.get? a = some { cls := .type "list", data := .seq vs.toArray }) (hi : IntsAre vs ns) (hl : ns.length <= sizeLine) (hr : Room k callerA)
    (F : ∀ base : Heap, K.In base -> base.Ns mainGlobals mg -> FnOk P w K mg base CX k fa fd [x] sp) (hbind : ∀ (s : Shared) (u : Value), BindsTo s fd ⟨[u], []⟩ [(x, u)])
    (hsp : ∀ H : Hp, Only H -> SqL K H a (ns.map V.int) -> sp [.ref a] H (fun v _ => v = .bl true) fun _ _ _ => False)
    (hCX : ∀ H e s', CX [] H s₁ (fun _ _ _ => False) e s' -> False) :
    codeAny (model P w) callerA (.call (.ref fa) ⟨[.ref a], []⟩) (fun r s' => r = .ok (.ret (.bool true)) /\ OldK s₁.heap s'.heap /\ s'.os = s₁.os /\ AllBare s'.gens) s₁ := by
  have rv := vals_ints hi
  have lenV := hi.length
  have core : ∀ H : Hp, Only H -> SqL K H a (ns.map V.int) -> HOk P w H s₁.heap -> (∀ b, H b ≠ none -> b = a) -> (H a ≠ none -> K.lookup a = none) ->
      codeAny (model P w) callerA (.call (.ref fa) ⟨[.ref a], []⟩) (fun r s' => r = .ok (.ret (.bool true)) /\ OldK s₁.heap s'.heap /\ s'.os = s₁.os /\ AllBare s'.gens) s₁ := by
    intro H hO hS hok hA hK
    have base_of : ∀ {b : Addr} {o : Obj}, s₁.heap.get? b = some o -> H b = none -> (hidT s₁.heap H).get? b = some o := fun e n => hidT_get e n
    have noA : ∀ {b : Addr} {o : Obj} {es : Array DictEntry} {ep : Nat}, s₁.heap.get? b = some o -> o.data = .dict es ep -> H b = none := fun {b o es ep} e d => by
      cases q : H b with
      | none => rfl
      | some u =>
        have e' : b = a := hA b (by rw [q]; simp)
        subst e'
        rw [ha] at e; cases e
        have d' : Data.seq vs.toArray _ = Data.dict es ep := d
        cases d'
    have nsK : ∀ {b : Addr} {m : Str -> Option Value}, s₁.heap.Ns b m -> (hidT s₁.heap H).Ns b m := fun {b m} ⟨o, es, ep, e, d, r⟩ => ⟨o, es, ep, base_of e (noA e d), d, r⟩
    have hKb : K.In (hidT s₁.heap H) := fun b o e => base_of (KX b o e) (by
      cases q : H b with
      | none => rfl
      | some u =>
        have e' : b = a := hA b (by rw [q]; simp)
        subst e'
        rw [hK (by rw [q]; simp)] at e; cases e)
    have hM : Mod K mg (hidT s₁.heap H) := ⟨hKb, nsK hns, ⟨mb, nsK hb, hbb⟩, let ⟨mc, h1, h2⟩ := hlim; ⟨mc, nsK h1, h2⟩⟩
    have e0 : Env0 P w K mg (hidT s₁.heap H) callerA [] s₁ H := ⟨rfl, hM, fun b o e => of_hidT e, Nat.le_of_eq (hidT_size _ _), trivial, fun b hb => absurd (show b ∈ ([] : List Addr) from hb) (by simp), hok, .of_eq hg⟩
    refine codeAny_mono ((F _ hKb (nsK hns)).run callerA [] s₁ H ⟨[.ref a], []⟩ [.ref a] [.ref a] _ _ hr e0 (hbind s₁ (.ref a)) (.cons rfl .nil) (hsp H hO hS)) fun r s' h => ?_
    cases r with
    | error e => exact (hCX H e s' h).elim
    | ok fl =>
      cases fl with
      | next => exact False.elim h
      | brk => exact False.elim h
      | cont => exact False.elim h
      | ret u =>
        obtain ⟨v, H', os, bare, un, hok', r', q⟩ := h
        have q' : v = .bl true := q
        subst q'
        obtain rfl : u = Value.bool true := r'
        refine ⟨rfl, OldK.of_keep fun b o e => ?_, os, bare⟩
        cases q : H b with
        | none => exact un.keep b o e q (by intro z; exact absurd (show b ∈ ([] : List Addr) from z) (by simp)) (by simp)
        | some u =>
          rcases hO b with z | ⟨ob, xs, z⟩
          · rw [q] at z; cases z
          · have z2 := un.frzs b ob _ z
            obtain ⟨e1, _⟩ := hok b _ z
            obtain ⟨e2, _⟩ := hok' b _ z2
            rw [e] at e1; cases e1
            exact e2
  cases hk : K.lookup a with
  | some o =>
    have e := KX a o hk
    rw [ha] at e
    cases e
    refine core (fun _ => none) (fun _ => .inl rfl) (.inr ⟨_, vs.toArray, _, hk, rfl, rfl, rfl, by rw [List.size_toArray, lenV]; exact hl, by simpa using rv⟩) (fun b u z => by have z' : (none : Option HO) = some u := z; cases z') (fun b z => absurd rfl z) fun z => absurd rfl z
  | none =>
    refine core (fun b => if b = a then some (.frz { cls := .type "list", data := .seq vs.toArray } (.lst (ns.map V.int))) else none) (fun b => ?_) (.inl (.inr ⟨{ cls := .type "list", data := .seq vs.toArray }, if_pos rfl⟩)) (fun b u z => ?_) (fun b z => ?_) fun _ => hk
    · by_cases hb : b = a
      · exact .inr ⟨_, _, if_pos hb⟩
      · exact .inl (if_neg hb)
    · by_cases hb : b = a
      · have z' := (if_pos hb).symm.trans z
        cases z'
        subst hb
        exact ⟨ha, by rw [List.length_map]; exact hl, vs, _, rv, ha⟩
      · have z' := (if_neg hb).symm.trans z
        cases z'
    · by_cases hb : b = a
      · exact hb
      · exact absurd (if_neg hb) z
end L2
namespace L2
open PySem PySem.Spec PyProof.Rows
abbrev KOf {K : PySem.W.Frag} {h : Heap} (_ : K.In h) : PySem.W.Frag := K
theorem walk_of {l : PySem.W.OpenLaw} {n k : Nat} {q : Program} {loose : List Str} {XP : (Str -> Option Value) -> Heap -> Prop} {YP : World -> Heap -> Prop} {d : DefRec} {K : Params -> PySem.W.Frag} {CX : World -> CXT} {sp : World -> Sp} {x : Str}
    (hn : l.most = some n) (hn2 : n <= sizeLine) (hdf : d.params.defaults = []) (hr : Room k callerA)
    (hY : ∀ (w : World) (h : Heap), YP w h -> (K w.params).In h)
    (F : ∀ (w : World) (mg : Str -> Option Value) (fa : Addr) (h : Heap), (K w.params).In h -> h.Ns mainGlobals mg -> mg d.name = some (.ref fa) ->
      ∃ fd : FuncData, (∀ (s : Shared) (u : Value), BindsTo s fd ⟨[u], []⟩ [(x, u)]) /\
        ∀ base : Heap, (K w.params).In base -> base.Ns mainGlobals mg -> FnOk l.prog w (K w.params) mg base (CX w) k fa fd [x] (sp w))
    (hsp : ∀ (w : World) (H : Hp) (a : Addr) (ns : List Int), ns.length <= n -> Only H -> SqL (K w.params) H a (ns.map V.int) -> sp w [.ref a] H (fun v _ => v = .bl true) fun _ _ _ => False)
    (hCX : ∀ (w : World) (H : Hp) (s : Shared) (e : Value) (s' : Shared), CX w [] H s (fun _ _ _ => False) e s' -> False) :
    PySem.W.WalkO q loose XP YP l.row.toRowW d [] (fun f vs => PySem.call f vs) := by
  refine Att.attach_call hn hdf fun w s₀ s₁ mg mb fa o pm cd doc a vs ns G Y ho hd hcd hmg hobj hints hlen hg => ?_
  have KX := hY w _ Y
  obtain ⟨fd, hb, hF⟩ := F w mg fa _ KX G.T.g hmg
  exact law_call KX G.T.g G.T.b G.T.builtins G.T.nolimit hg hobj hints (Nat.le_trans hlen hn2) hr hF hb (fun H hO hS => hsp w H a ns hlen hO hS) fun H e s' => hCX w H s₁ e s'
theorem walk_ofK {l : PySem.W.OpenLaw} {n k : Nat} {q : Program} {loose : List Str} {XP : (Str -> Option Value) -> Heap -> Prop} {YP : World -> Heap -> Prop} {d : DefRec} {K : Params -> PySem.W.Frag} {CX : CXT} {sp : PySem.W.Frag -> Sp} {x : Str}
    (hn : l.most = some n) (hn2 : n <= sizeLine) (hdf : d.params.defaults = []) (hr : Room k callerA)
    (hY : ∀ (w : World) (h : Heap), YP w h -> (K w.params).In h)
    (F : ∀ (w : World) (mg : Str -> Option Value) (fa : Addr) (h : Heap), (K w.params).In h -> h.Ns mainGlobals mg -> mg d.name = some (.ref fa) ->
      ∃ fd : FuncData, (∀ (s : Shared) (u : Value), BindsTo s fd ⟨[u], []⟩ [(x, u)]) /\
        ∀ base : Heap, (K w.params).In base -> base.Ns mainGlobals mg -> FnOk l.prog w (K w.params) mg base CX k fa fd [x] (sp (K w.params)))
    (hsp : ∀ (K : PySem.W.Frag) (H : Hp) (a : Addr) (ns : List Int), ns.length <= n -> Only H -> SqL K H a (ns.map V.int) -> sp K [.ref a] H (fun v _ => v = .bl true) fun _ _ _ => False)
    (hCX : ∀ (H : Hp) (s : Shared) (e : Value) (s' : Shared), CX [] H s (fun _ _ _ => False) e s' -> False) :
    PySem.W.WalkO q loose XP YP l.row.toRowW d [] (fun f vs => PySem.call f vs) :=
  walk_of (K := K) (CX := fun _ => CX) (sp := fun w => sp (K w.params)) hn hn2 hdf hr hY F (fun w H a ns h1 h2 h3 => hsp (K w.params) H a ns h1 h2 h3) fun _ H s e s' => hCX H s e s'
end L2
namespace L2
open PySem PySem.Spec PyProof.Rows
def inClass (s : Stmt) (j : Nat) : Stmt := match s with
  | .ClassDef _ _ _ body _ _ _ _ _ _ _ => body.getD j (.Pass ⟨0, 0, 0, 0⟩)
  | _ => .Pass ⟨0, 0, 0, 0⟩
def defArgs (s : Stmt) : Arguments := match s with
  | .FunctionDef _ a _ _ _ _ _ _ _ _ => a
  | _ => { posonlyargs := [], args := [], vararg := none, kwonlyargs := [], kw_defaults := [], kwarg := none, defaults := [] }
def defBody (s : Stmt) : List Stmt := match s with
  | .FunctionDef _ _ b _ _ _ _ _ _ _ => b
  | _ => []
def defScope (s : Stmt) : Scope := match s with
  | .FunctionDef _ _ _ _ _ _ sc _ _ _ => sc
  | _ => { kind := .function, names := [], isGenerator := false, isCoroutine := false }
abbrev CX0 : CXT := fun _ _ _ _ _ _ => False
abbrev E0 : XK := fun _ _ _ => False
theorem pass0 {X : Cx} : Passes CX0 X E0 := fun _ _ _ _ _ _ _ h => h.elim
structure Fun (K : PySem.W.Frag) (x qual : Str) (st : Stmt) (f : Addr) (fd : FuncData) : Prop where
  ex : ∃ (oc : Value) (od : Option Addr) (kV doc pm : Value) (an : Option Addr) (cdv ct : Value) (osl : Array (Option Value)),
    fd = PySem.W.fnOf x qual (defArgs st) (defBody st) (defScope st) .none kV doc pm an cdv ct /\ K.lookup f = some ⟨oc, od, .func fd, osl⟩ /\ PySem.W.codeIn K cdv qual = true
  kp : PySem.W.keepIn K (.ref f) = true
section
variable {P : Program} {w : World} {K : PySem.W.Frag} {mg : Str -> Option Value} {base : Heap}
theorem Fun.ok {x qual : Str} {st : Stmt} {f : Addr} {fd : FuncData} {N ps : List Str} {k : Nat} {sp : Sp} (F : Fun K x qual st f fd) (S : FnScope N ps (defScope st)) (len : ∀ vs H Q E, sp vs H Q E -> vs.length = ps.length)
    (hbody : ∀ (cdv : Value) (A : Around) (outer : List Env) (s : Shared) (H : Hp) (vs : List V) (Q : VK) (E : XK), Room k (A.deeper (envOfC qual (defScope st) s.heap.objs.size f cdv)) -> sp vs H Q E ->
      ∃ t, PSs (cxOf CX0 P w K mg base N qual (defScope st) f cdv A outer s H E).nox (defBody st) t /\ t { nx := fun _ H' => Q .non H', rt := Q } (start N vs) H) : FnOk P w K mg base CX0 (k + 1) f fd ps sp := by
  obtain ⟨oc, od, kV, doc, pm, an, cdv, ct, osl, rfl, lk, hcd⟩ := F.ex
  refine fn_of lk hcd S len fun A outer s H vs Q E hr hsp => ?_
  obtain ⟨t, h, q⟩ := hbody cdv A outer s H vs Q E hr hsp
  exact ⟨t, h.nox, q⟩
theorem Fun.binds {x qual : Str} {st : Stmt} {f : Addr} {fd : FuncData} {ps : List Str} (F : Fun K x qual st f fd)
    (h : ∀ (kV doc pm : Value) (an : Option Addr) (cdv ct : Value) (us : List Value), us.length = ps.length -> bindArgs (PySem.W.fnOf x qual (defArgs st) (defBody st) (defScope st) .none kV doc pm an cdv ct) ⟨us, []⟩ = pure (ps.zip us)) : Binds K fd ps [] := by
  obtain ⟨oc, od, kV, doc, pm, an, cdv, ct, osl, rfl, lk, hcd⟩ := F.ex
  exact .all (h kV doc pm an cdv ct)
theorem fun_mk {x qual : Str} {st : Stmt} {f : Addr} {oc : Value} {od an : Option Addr} {osl : Array (Option Value)} {kV doc pm cdv ct : Value} (l : K.lookup f = some ⟨oc, od, .func (PySem.W.fnOf x qual (defArgs st) (defBody st) (defScope st) .none kV doc pm an cdv ct), osl⟩)
    (c : PySem.W.codeIn K cdv qual = true) (k : PySem.W.keepIn K (.ref f) = true) : Fun K x qual st f (PySem.W.fnOf x qual (defArgs st) (defBody st) (defScope st) .none kV doc pm an cdv ct) := ⟨⟨oc, od, kV, doc, pm, an, cdv, ct, osl, rfl, l, c⟩, k⟩
end
section
variable {X : Cx}
theorem pv (i : Nat) {x : Str} {pos : Pos} (hN : X.N[i]? = some x := by rfl) (hv : Vis X.env.scope x := by first | exact Or.inl rfl | exact Or.inr (Or.inl rfl) | exact Or.inr (Or.inr rfl)) (hd : (x == ("__debug__" : Str)) = false := by decide)
    (hcd : (x == ("__classdict__" : Str)) = false := by decide) : PE X (.Name x pos) (tVar i) := pe_var hN hv hd hcd
end
theorem iteF {A B : Prop} (h : B) : if false = true then A else B := by
  rw [if_neg Bool.false_ne_true]
  exact h
theorem iteT {A B : Prop} (h : A) : if true = true then A else B := by
  rw [if_pos rfl]
  exact h
theorem iteNS {c A B : Prop} [Decidable c] (hc : c) (h : B) : if (!decide c) = true then A else B := by
  rw [decide_eq_true hc]
  exact iteF h
def Same (H H' : Hp) : Prop := ∀ b o, H b = some o -> H' b = some o
theorem Same.refl (H : Hp) : Same H H := fun _ _ h => h
theorem Same.trans {H H1 H2 : Hp} (a : Same H H1) (b : Same H1 H2) : Same H H2 := fun c o h => b c o (a c o h)
theorem Same.free {H H' : Hp} (e : Same H H') {l : Addr} (h : H' l = Option.none) : H l = Option.none := by
  cases q : H l with
  | none => rfl
  | some o =>
    rw [e l o q] at h
    cases h
theorem Same.seq {K : PySem.W.Frag} {H H' : Hp} {a : Addr} {xs : List V} (e : Same H H') (h : SqL K H a xs) : SqL K H' a xs := by
  rcases h with (h | ⟨o, h⟩) | h
  · exact .inl (.inl (e _ _ h))
  · exact .inl (.inr ⟨o, e _ _ h⟩)
  · exact .inr h
end L2
set_option maxHeartbeats 4000000
namespace L2
open PySem PySem.Spec PyProof.Rows
inductive Da where
  | fl (v : V)
  | tup (ds : List Da)
  | lst (ds : List Da)
mutual
def Isd (K : PySem.W.Frag) (H : Hp) : Da -> V -> Prop
  | .fl x, v => v = x /\ flatV x = true
  | .tup ds, v => ∃ a xs, v = .ref a /\ SqT K H a xs /\ Isds K H ds xs
  | .lst ds, v => ∃ a xs, v = .ref a /\ SqL K H a xs /\ Isds K H ds xs
def Isds (K : PySem.W.Frag) (H : Hp) : List Da -> List V -> Prop
  | [], xs => xs = []
  | d :: ds, xs => ∃ v vs, xs = v :: vs /\ Isd K H d v /\ Isds K H ds vs
end
mutual
def eqD : Da -> Da -> Bool
  | .fl x, .fl y => eqV x y
  | .tup a, .tup b => eqDs a b
  | .lst a, .lst b => eqDs a b
  | _, _ => false
def eqDs : List Da -> List Da -> Bool
  | [], [] => true
  | a :: r, b :: t => eqD a b && eqDs r t
  | _, _ => false
end
mutual
def depD : Da -> Nat
  | .fl _ => 0
  | .tup ds => depDs ds + 1
  | .lst ds => depDs ds + 1
def depDs : List Da -> Nat
  | [] => 0
  | d :: ds => max (depD d) (depDs ds)
end
theorem Isds.len {K : PySem.W.Frag} {H : Hp} : ∀ {ds : List Da} {xs : List V}, Isds K H ds xs -> ds.length = xs.length
  | [], xs, h => by unfold Isds at h; subst h; rfl
  | d :: ds, xs, h => by
    unfold Isds at h
    obtain ⟨v, vs, rfl, _, t⟩ := h
    rw [List.length_cons, List.length_cons, Isds.len t]
theorem Isds.get {K : PySem.W.Frag} {H : Hp} : ∀ {ds : List Da} {xs : List V} {i : Nat} {d : Da} {v : V}, Isds K H ds xs -> ds[i]? = some d -> xs[i]? = some v -> Isd K H d v
  | [], _, _, _, _, _, e, _ => by simp at e
  | d :: ds, xs, 0, _, _, h, e, q => by
    unfold Isds at h
    obtain ⟨v, vs, rfl, hd, t⟩ := h
    simp at e q
    subst e q
    exact hd
  | d :: ds, xs, i + 1, _, _, h, e, q => by
    unfold Isds at h
    obtain ⟨v, vs, rfl, hd, t⟩ := h
    exact Isds.get t (by simpa using e) (by simpa using q)
theorem eqV_refl {x : V} (h : flatV x = true) : eqV x x = true := by
  cases x with
  | non => rfl
  | bl b => show (b == b) = true; simp
  | int i => show (i == i) = true; simp
  | str z => show (z == z) = true; simp
  | _ => exact absurd (show false = true from h) Bool.false_ne_true
section
variable {X : Cx} {pins : List (Addr × Obj)} {σ : St} {H : Hp} {s : Shared}
theorem Inv.lst_tup (I : Inv X pins σ H s) {a : Addr} {xs ys : List V} (h : SqL X.K H a xs) (h' : SqT X.K H a ys) : False := by
  obtain ⟨its, _, ⟨o1, n1, e1, c1, _⟩, _⟩ := I.list h
  obtain ⟨its2, _, ⟨o, e2, c2, _⟩, _⟩ := I.tuple h'
  rw [e1] at e2
  cases e2
  rw [c1] at c2
  exact absurd (Value.type.inj c2) (by decide)
theorem Isd.flat_ref {K : PySem.W.Frag} {a : Addr} {x : V} (h : Isd K H (.fl x) (.ref a)) : False := by
  unfold Isd at h
  obtain ⟨e, f⟩ := h
  subst e
  exact absurd (show false = true from f) Bool.false_ne_true
mutual
theorem Isd.inj (I : Inv X pins σ H s) : ∀ (d e : Da) {v : V}, Isd X.K H d v -> Isd X.K H e v -> d = e
  | .fl x, .fl y, v, h, q => by
    unfold Isd at h q
    rw [<- h.1, <- q.1]
  | .fl x, .tup ys, v, h, q => by
    unfold Isd at q
    obtain ⟨a, zs, e, _⟩ := q
    subst e
    exact h.flat_ref.elim
  | .fl x, .lst ys, v, h, q => by
    unfold Isd at q
    obtain ⟨a, zs, e, _⟩ := q
    subst e
    exact h.flat_ref.elim
  | .tup xs, .fl y, v, h, q => by
    unfold Isd at h
    obtain ⟨a, zs, e, _⟩ := h
    subst e
    exact q.flat_ref.elim
  | .lst xs, .fl y, v, h, q => by
    unfold Isd at h
    obtain ⟨a, zs, e, _⟩ := h
    subst e
    exact q.flat_ref.elim
  | .tup xs, .tup ys, v, h, q => by
    unfold Isd at h q
    obtain ⟨a, us, e, ha, hs⟩ := h
    obtain ⟨b, ws, e', hb, qs⟩ := q
    subst e
    cases e'
    rw [I.tuple_inj ha hb] at hs
    rw [Isds.inj I xs ys hs qs]
  | .lst xs, .lst ys, v, h, q => by
    unfold Isd at h q
    obtain ⟨a, us, e, ha, hs⟩ := h
    obtain ⟨b, ws, e', hb, qs⟩ := q
    subst e
    cases e'
    rw [I.list_inj ha hb] at hs
    rw [Isds.inj I xs ys hs qs]
  | .tup xs, .lst ys, v, h, q => by
    unfold Isd at h q
    obtain ⟨a, us, e, ha, hs⟩ := h
    obtain ⟨b, ws, e', hb, qs⟩ := q
    subst e
    cases e'
    exact (I.lst_tup hb ha).elim
  | .lst xs, .tup ys, v, h, q => by
    unfold Isd at h q
    obtain ⟨a, us, e, ha, hs⟩ := h
    obtain ⟨b, ws, e', hb, qs⟩ := q
    subst e
    cases e'
    exact (I.lst_tup ha hb).elim
theorem Isds.inj (I : Inv X pins σ H s) : ∀ (ds es : List Da) {vs : List V}, Isds X.K H ds vs -> Isds X.K H es vs -> ds = es
  | [], [], _, _, _ => rfl
  | [], e :: es, vs, h, q => by
    unfold Isds at h q
    obtain ⟨v, r, e1, _⟩ := q
    rw [h] at e1; cases e1
  | d :: ds, [], vs, h, q => by
    unfold Isds at h q
    obtain ⟨v, r, e1, _⟩ := h
    rw [q] at e1; cases e1
  | d :: ds, e :: es, vs, h, q => by
    unfold Isds at h q
    obtain ⟨v, r, e1, h1, h2⟩ := h
    obtain ⟨v', r', e2, q1, q2⟩ := q
    subst e1
    cases e2
    rw [Isd.inj I d e h1 q1, Isds.inj I ds es h2 q2]
end
mutual
theorem eqD_refl {K : PySem.W.Frag} : ∀ (d : Da) {v : V}, Isd K H d v -> eqD d d = true
  | .fl x, v, h => by
    unfold Isd at h
    unfold eqD
    exact eqV_refl h.2
  | .tup ds, v, h => by
    unfold Isd at h
    obtain ⟨_, _, _, _, hs⟩ := h
    unfold eqD
    exact eqDs_refl ds hs
  | .lst ds, v, h => by
    unfold Isd at h
    obtain ⟨_, _, _, _, hs⟩ := h
    unfold eqD
    exact eqDs_refl ds hs
theorem eqDs_refl {K : PySem.W.Frag} : ∀ (ds : List Da) {vs : List V}, Isds K H ds vs -> eqDs ds ds = true
  | [], _, _ => by unfold eqDs; rfl
  | d :: ds, vs, h => by
    unfold Isds at h
    obtain ⟨_, _, _, h1, h2⟩ := h
    unfold eqDs
    rw [eqD_refl d h1, eqDs_refl ds h2]
    rfl
end
theorem eqDs_all : ∀ (ds es : List Da), ds.length = es.length -> (List.range ds.length).all (fun j => match ds[j]?, es[j]? with | some a, some b => eqD a b | _, _ => false) = eqDs ds es
  | [], [], _ => by unfold eqDs; rfl
  | [], _ :: _, h => by simp at h
  | _ :: _, [], h => by simp at h
  | d :: ds, e :: es, h => by
    have ih := eqDs_all ds es (by simpa using h)
    unfold eqDs
    rw [<- ih, List.length_cons, List.range_succ_eq_map, List.all_cons, List.all_map]
    simp only [List.getElem?_cons_zero, Function.comp_def, List.getElem?_cons_succ]
theorem eqDs_len : ∀ (ds es : List Da), ds.length ≠ es.length -> eqDs ds es = false
  | [], [], h => by simp at h
  | [], _ :: _, _ => by unfold eqDs; rfl
  | _ :: _, [], _ => by unfold eqDs; rfl
  | d :: ds, e :: es, h => by
    unfold eqDs
    rw [eqDs_len ds es (by simpa using h), Bool.and_false]
theorem depD_mem : ∀ {ds : List Da} {d : Da} {j : Nat}, ds[j]? = some d -> depD d <= depDs ds
  | [], _, _, h => by simp at h
  | d :: ds, _, 0, h => by
    simp at h
    subst h
    unfold depDs
    omega
  | d :: ds, e, j + 1, h => by
    have := depD_mem (ds := ds) (d := e) (j := j) (by simpa using h)
    unfold depDs
    omega
def atE (ds es : List Da) (j : Nat) : Bool := match ds[j]?, es[j]? with
  | some a, some b => eqD a b
  | _, _ => false
theorem items_D {K : PySem.W.Frag} {n : Nat} {A : Around} (hE : ∀ (d e : Da) (v x : V) (u w : Value), depD d <= n -> Isd K H d v -> Isd K H e x -> RelV v u -> RelV x w -> SeqAt.EqAt A s u w (eqD d e)) {ds es : List Da} {xs ys : List V} {us ws : List Value} (hdp : depDs ds <= n)
    (h1 : Isds K H ds xs) (h2 : Isds K H es ys) (r1 : Vals xs us) (r2 : Vals ys ws) (j : Nat) (l1 : j < us.toArray.size) (l2 : j < ws.toArray.size) : SeqAt.EqAt A s us.toArray[j] ws.toArray[j] (atE ds es j) := by
  have l1' : j < us.length := by simpa using l1
  have l2' : j < ws.length := by simpa using l2
  have q1 := h1.len
  have q2 := h2.len
  have q3 := r1.length
  have q4 := r2.length
  have a1 : ds[j]? = some ds[j] := List.getElem?_eq_getElem (by omega)
  have a2 : es[j]? = some es[j] := List.getElem?_eq_getElem (by omega)
  have a3 : xs[j]? = some xs[j] := List.getElem?_eq_getElem (by omega)
  have a4 : ys[j]? = some ys[j] := List.getElem?_eq_getElem (by omega)
  obtain ⟨u1, b1, c1⟩ := r1.get a3
  obtain ⟨w1, b2, c2⟩ := r2.get a4
  have e1 : us.toArray[j] = u1 := by
    have : us[j] = u1 := by rw [List.getElem?_eq_getElem l1'] at b1; exact Option.some.inj b1
    simpa using this
  have e2 : ws.toArray[j] = w1 := by
    have : ws[j] = w1 := by rw [List.getElem?_eq_getElem l2'] at b2; exact Option.some.inj b2
    simpa using this
  rw [e1, e2]
  unfold atE
  rw [a1, a2]
  exact hE ds[j] es[j] _ _ _ _ (Nat.le_trans (depD_mem a1) hdp) (h1.get a1 a3) (h2.get a2 a4) c1 c2
theorem eqAt_D (I : Inv X pins σ H s) : ∀ (n : Nat) (d e : Da) {A : Around} {v x : V} {u w : Value}, depD d <= n -> Isd X.K H d v -> Isd X.K H e x -> RelV v u -> RelV x w -> A.units + n < cLine -> SeqAt.EqAt A s u w (eqD d e) := by
  intro n
  induction n with
  | zero =>
    intro d e A v x u w hn hd he ru rw' hu
    cases d with
    | tup ds => unfold depD at hn; omega
    | lst ds => unfold depD at hn; omega
    | fl y =>
      unfold Isd at hd
      obtain ⟨rfl, fy⟩ := hd
      cases e with
      | fl z =>
        unfold Isd at he
        obtain ⟨rfl, fz⟩ := he
        unfold eqD
        exact eqAt_V ru rw' fy fz
      | tup es =>
        unfold Isd at he
        obtain ⟨a, xs, rfl, ha, _⟩ := he
        obtain ⟨its, _, p, _⟩ := I.tuple ha
        cases rw'
        have p' : s.heap.IsTuple a its.toArray := p
        cases v with
        | non => cases ru; exact SeqAt.EqAt.none_tuple p' (by omega)
        | bl b => cases ru; exact SeqAt.EqAt.bool_tuple b p' (by omega)
        | int i => obtain ⟨t, rfl⟩ := ru; exact SeqAt.EqAt.int_tuple i t p' (by omega)
        | str z => obtain ⟨t, rfl⟩ := ru; exact SeqAt.EqAt.str_tuple z t p' (by omega)
        | _ => exact absurd (show false = true from fy) Bool.false_ne_true
      | lst es =>
        unfold Isd at he
        obtain ⟨a, xs, rfl, ha, _⟩ := he
        obtain ⟨its, _, p, _⟩ := I.list ha
        cases rw'
        have p' := p.isList
        cases v with
        | non => cases ru; exact SeqAt.EqAt.none_list p' (by omega)
        | bl b => cases ru; exact SeqAt.EqAt.bool_list b p' (by omega)
        | int i => obtain ⟨t, rfl⟩ := ru; exact SeqAt.EqAt.int_list i t p' (by omega)
        | str z => obtain ⟨t, rfl⟩ := ru; exact SeqAt.EqAt.str_list z t p' (by omega)
        | _ => exact absurd (show false = true from fy) Bool.false_ne_true
  | succ n ih =>
    intro d e A v x u w hn hd he ru rw' hu
    have items : ∀ {ds es : List Da} {xs ys : List V} {us ws : List Value}, depDs ds <= n -> Isds X.K H ds xs -> Isds X.K H es ys -> Vals xs us -> Vals ys ws ->
        ∀ j (h1 : j < us.toArray.size) (h2 : j < ws.toArray.size), SeqAt.EqAt A.in1 s us.toArray[j] ws.toArray[j] (atE ds es j) :=
      items_D (n := n) fun d e v x u w h1 h2 h3 h4 h5 => ih d e h1 h2 h3 h4 h5 (by show A.units + 1 + n < cLine; omega)
    cases d with
    | fl y =>
      exact ih (.fl y) e (by unfold depD; omega) hd he ru rw' (by omega)
    | tup ds =>
      cases e with
      | fl z =>
        unfold Isd at hd he
        obtain ⟨a, xs, rfl, ha, _⟩ := hd
        obtain ⟨rfl, fz⟩ := he
        obtain ⟨its, _, p, _⟩ := I.tuple ha
        cases ru
        have p' : s.heap.IsTuple a its.toArray := p
        cases x with
        | non => cases rw'; exact SeqAt.EqAt.tuple_none p' (by omega)
        | bl b => cases rw'; exact SeqAt.EqAt.tuple_bool b p' (by omega)
        | int i => obtain ⟨t, rfl⟩ := rw'; exact SeqAt.EqAt.tuple_int i t p' (by omega)
        | str z => obtain ⟨t, rfl⟩ := rw'; exact SeqAt.EqAt.tuple_str z t p' (by omega)
        | _ => exact absurd (show false = true from fz) Bool.false_ne_true
      | tup es =>
        have hd0 := hd
        have he0 := he
        unfold Isd at hd he
        obtain ⟨a, xs, rfl, ha, hs⟩ := hd
        obtain ⟨b, ys, rfl, hb, qs⟩ := he
        cases ru
        cases rw'
        by_cases hab : a = b
        · subst hab
          rw [<- Isd.inj I (.tup ds) (.tup es) hd0 he0, eqD_refl _ hd0]
          exact SeqAt.EqAt.same _
        · obtain ⟨us, r1, p1, _⟩ := I.tuple ha
          obtain ⟨ws, r2, p2, _⟩ := I.tuple hb
          have hdp : depDs ds <= n := by unfold depD at hn; omega
          have key := SeqAt.RcAt.tuples (A := A) (e := atE ds es) (show s.heap.IsTuple a us.toArray from p1) (show s.heap.IsTuple b ws.toArray from p2) (by omega) (items hdp hs qs r1 r2)
          have ev : ((List.range (min us.toArray.size ws.toArray.size)).all (atE ds es) && us.toArray.size == ws.toArray.size) = eqD (.tup ds) (.tup es) := by
            have q1 := hs.len
            have q2 := qs.len
            have q3 := r1.length
            have q4 := r2.length
            have z1 : us.toArray.size = ds.length := by simp; omega
            have z2 : ws.toArray.size = es.length := by simp; omega
            unfold eqD
            rw [z1, z2]
            by_cases hl : ds.length = es.length
            · rw [<- eqDs_all ds es hl, hl, Nat.min_self, beq_self_eq_true, Bool.and_true]
              rfl
            · rw [eqDs_len ds es hl, beq_eq_false_iff_ne.mpr hl, Bool.and_false]
          rw [ev] at key
          exact SeqAt.EqAt.of_refs hab key
      | lst es =>
        unfold Isd at hd he
        obtain ⟨a, xs, rfl, ha, hs⟩ := hd
        obtain ⟨b, ys, rfl, hb, qs⟩ := he
        cases ru
        cases rw'
        obtain ⟨us, r1, p1, _⟩ := I.tuple ha
        obtain ⟨ws, r2, p2, _⟩ := I.list hb
        unfold eqD
        exact SeqAt.EqAt.tuple_list (show s.heap.IsTuple a us.toArray from p1) p2.isList (by omega)
    | lst ds =>
      cases e with
      | fl z =>
        unfold Isd at hd he
        obtain ⟨a, xs, rfl, ha, _⟩ := hd
        obtain ⟨rfl, fz⟩ := he
        obtain ⟨its, _, p, _⟩ := I.list ha
        cases ru
        have p' := p.isList
        cases x with
        | non => cases rw'; exact SeqAt.EqAt.list_none p' (by omega)
        | bl b => cases rw'; exact SeqAt.EqAt.list_bool b p' (by omega)
        | int i => obtain ⟨t, rfl⟩ := rw'; exact SeqAt.EqAt.list_int i t p' (by omega)
        | str z => obtain ⟨t, rfl⟩ := rw'; exact SeqAt.EqAt.list_str z t p' (by omega)
        | _ => exact absurd (show false = true from fz) Bool.false_ne_true
      | tup es =>
        unfold Isd at hd he
        obtain ⟨a, xs, rfl, ha, hs⟩ := hd
        obtain ⟨b, ys, rfl, hb, qs⟩ := he
        cases ru
        cases rw'
        obtain ⟨us, r1, p1, _⟩ := I.list ha
        obtain ⟨ws, r2, p2, _⟩ := I.tuple hb
        unfold eqD
        exact SeqAt.EqAt.list_tuple p1.isList (show s.heap.IsTuple b ws.toArray from p2) (by omega)
      | lst es =>
        have hd0 := hd
        have he0 := he
        unfold Isd at hd he
        obtain ⟨a, xs, rfl, ha, hs⟩ := hd
        obtain ⟨b, ys, rfl, hb, qs⟩ := he
        cases ru
        cases rw'
        by_cases hab : a = b
        · subst hab
          rw [<- Isd.inj I (.lst ds) (.lst es) hd0 he0, eqD_refl _ hd0]
          exact SeqAt.EqAt.same _
        · obtain ⟨us, r1, p1, _⟩ := I.list ha
          obtain ⟨ws, r2, p2, _⟩ := I.list hb
          have hdp : depDs ds <= n := by unfold depD at hn; omega
          have q1 := hs.len
          have q2 := qs.len
          have q3 := r1.length
          have q4 := r2.length
          have z1 : us.toArray.size = ds.length := by simp; omega
          have z2 : ws.toArray.size = es.length := by simp; omega
          by_cases hl : ds.length = es.length
          · have key := SeqAt.RcAt.lists (A := A) (e := atE ds es) p1.isList p2.isList (by rw [z1, z2]; exact hl) (by omega) (items hdp hs qs r1 r2)
            have ev : (List.range us.toArray.size).all (atE ds es) = eqD (.lst ds) (.lst es) := by
              unfold eqD
              rw [z1, <- eqDs_all ds es hl]
              rfl
            rw [ev] at key
            exact SeqAt.EqAt.of_refs hab key
          · have key := SeqAt.RcAt.lists_lengths (A := A) p1.isList p2.isList (by rw [z1, z2]; exact bne_iff_ne.mpr hl) (by omega)
            have ev : false = eqD (.lst ds) (.lst es) := by
              unfold eqD
              rw [eqDs_len ds es hl]
            rw [ev] at key
            exact SeqAt.EqAt.of_refs hab key
theorem all_T {ds es : List Da} {us ws : List Value} (q1 : ds.length = us.length) (q2 : es.length = ws.length) : ((List.range (min us.toArray.size ws.toArray.size)).all (atE ds es) && us.toArray.size == ws.toArray.size) = eqDs ds es := by
  have z1 : us.toArray.size = ds.length := by simp; omega
  have z2 : ws.toArray.size = es.length := by simp; omega
  rw [z1, z2]
  by_cases hl : ds.length = es.length
  · rw [<- eqDs_all ds es hl, hl, Nat.min_self, beq_self_eq_true, Bool.and_true]
    rfl
  · rw [eqDs_len ds es hl, beq_eq_false_iff_ne.mpr hl, Bool.and_false]
def rCmpD (K : PySem.W.Frag) (f : Bool -> Bool) : R2 := fun x y H Q => ∃ a b xs ys ds es, x = .ref a /\ y = .ref b /\ ((SqT K H a xs /\ SqT K H b ys) \/ (SqL K H a xs /\ SqL K H b ys)) /\ Isds K H ds xs /\ Isds K H es ys /\ depDs ds <= 50 /\ Q (.bl (f (eqDs ds es))) H
theorem op_eqD (hu : X.A.units + 64 < cLine) : OpR X (compareOp .Eq) (rCmpD X.K id) := by
  intro pins s σ H x y v u Q I rx ry h
  obtain ⟨a, b, xs, ys, ds, es, rfl, rfl, hq, hs, qs, hd, q⟩ := h
  cases rx
  cases ry
  have items := fun {us ws : List Value} (r1 : Vals xs us) (r2 : Vals ys ws) => items_D (s := s) (H := H) (n := 50) (A := X.A.in1) (fun d e v x u w h1 h2 h3 h4 h5 => eqAt_D I 50 d e h1 h2 h3 h4 h5 (by show X.A.units + 1 + 50 < cLine; omega)) hd hs qs r1 r2
  rcases hq with ⟨ha, hb⟩ | ⟨ha, hb⟩
  · obtain ⟨us, r1, p1, _⟩ := I.tuple ha
    obtain ⟨ws, r2, p2, _⟩ := I.tuple hb
    refine SeqAt.eq_tupleAt (e := atE ds es) (show s.heap.IsTuple a us.toArray from p1) (show s.heap.IsTuple b ws.toArray from p2) (by omega) (items r1 r2) ?_
    rw [all_T (hs.len.trans r1.length) (qs.len.trans r2.length)]
    exact ⟨.bl _, H, I, rfl, q⟩
  · obtain ⟨us, r1, p1, _⟩ := I.list ha
    obtain ⟨ws, r2, p2, _⟩ := I.list hb
    have z1 : us.toArray.size = ds.length := by have q1 := hs.len; have q3 := r1.length; simp; omega
    have z2 : ws.toArray.size = es.length := by have q1 := qs.len; have q3 := r2.length; simp; omega
    by_cases hl : ds.length = es.length
    · refine SeqAt.eq_listAt (e := atE ds es) p1.isList p2.isList (by rw [z1, z2]; exact hl) (by omega) (items r1 r2) ?_
      have ev : (List.range us.toArray.size).all (atE ds es) = eqDs ds es := by
        rw [z1, <- eqDs_all ds es hl]
        rfl
      rw [ev]
      exact ⟨.bl _, H, I, rfl, q⟩
    · refine SeqAt.eq_list_lengthsAt p1.isList p2.isList (by rw [z1, z2]; exact bne_iff_ne.mpr hl) (by omega) ?_
      have ev : false = eqDs ds es := (eqDs_len ds es hl).symm
      rw [ev]
      exact ⟨.bl _, H, I, rfl, q⟩
theorem op_neD (hu : X.A.units + 64 < cLine) : OpR X (compareOp .NotEq) (rCmpD X.K not) := by
  intro pins s σ H x y v u Q I rx ry h
  obtain ⟨a, b, xs, ys, ds, es, rfl, rfl, hq, hs, qs, hd, q⟩ := h
  cases rx
  cases ry
  have items := fun {us ws : List Value} (r1 : Vals xs us) (r2 : Vals ys ws) => items_D (s := s) (H := H) (n := 50) (A := X.A.in1) (fun d e v x u w h1 h2 h3 h4 h5 => eqAt_D I 50 d e h1 h2 h3 h4 h5 (by show X.A.units + 1 + 50 < cLine; omega)) hd hs qs r1 r2
  rcases hq with ⟨ha, hb⟩ | ⟨ha, hb⟩
  · obtain ⟨us, r1, p1, _⟩ := I.tuple ha
    obtain ⟨ws, r2, p2, _⟩ := I.tuple hb
    refine SeqAt.RcNeAt.tuples (e := atE ds es) (show s.heap.IsTuple a us.toArray from p1) (show s.heap.IsTuple b ws.toArray from p2) (by omega) (items r1 r2) _ _ _ _ ?_
    rw [all_T (hs.len.trans r1.length) (qs.len.trans r2.length)]
    exact ⟨.bl _, H, I, rfl, q⟩
  · obtain ⟨us, r1, p1, _⟩ := I.list ha
    obtain ⟨ws, r2, p2, _⟩ := I.list hb
    have z1 : us.toArray.size = ds.length := by have q1 := hs.len; have q3 := r1.length; simp; omega
    have z2 : ws.toArray.size = es.length := by have q1 := qs.len; have q3 := r2.length; simp; omega
    by_cases hl : ds.length = es.length
    · refine SeqAt.RcNeAt.lists (e := atE ds es) p1.isList p2.isList (by rw [z1, z2]; exact hl) (by omega) (items r1 r2) _ _ _ _ ?_
      have ev : (List.range us.toArray.size).all (atE ds es) = eqDs ds es := by
        rw [z1, <- eqDs_all ds es hl]
        rfl
      rw [ev]
      exact ⟨.bl _, H, I, rfl, q⟩
    · refine SeqAt.RcNeAt.lists_lengths p1.isList p2.isList (by rw [z1, z2]; exact bne_iff_ne.mpr hl) (by omega) _ _ _ _ ?_
      have ev : true = !eqDs ds es := by rw [eqDs_len ds es hl]; rfl
      rw [ev]
      exact ⟨.bl _, H, I, rfl, q⟩
end
end L2
namespace L2
open PySem PySem.Spec PyProof.Rows
theorem clos_loop (env : Env) : ∀ (names : List (Str × NameKind)) (cs : List (Str × Addr)), (∀ x, (x, NameKind.free) ∈ names -> ∃ c, env.cells.lookup x = some c) ->
    (∀ x c, cs.lookup x = some c -> env.cells.lookup x = some c) ->
    ∃ cl : List (Str × Addr), (forIn names cs fun (x : Str × NameKind) (r : List (Str × Addr)) => if (x.snd == NameKind.free) = true then do let a <- cellOf env x.fst; pure (ForInStep.yield ((x.fst, a) :: r)) else (pure (ForInStep.yield r) : Sem _)) = (pure cl : Sem _) /\
      (∀ x c, cl.lookup x = some c -> env.cells.lookup x = some c) /\ ∀ x, ((x, NameKind.free) ∈ names \/ ∃ c, cs.lookup x = some c) -> ∃ c, cl.lookup x = some c
  | [], cs, _, h2 => ⟨cs, rfl, h2, fun x hx => hx.elim (fun z => nomatch z) fun z => z⟩
  | (n, k) :: r, cs, h1, h2 => by
    cases hk : (k == NameKind.free) with
    | true =>
      have ek : k = .free := by simpa using hk
      subst ek
      obtain ⟨c, hc⟩ := h1 n List.mem_cons_self
      obtain ⟨cl, e, a, b⟩ := clos_loop env r ((n, c) :: cs) (fun x hx => h1 x (List.mem_cons_of_mem _ hx)) (fun x d hd => by
        rw [List.lookup_cons] at hd
        cases hx : x == n with
        | true =>
          rw [hx] at hd
          have : x = n := by simpa using hx
          subst this
          cases hd
          exact hc
        | false => rw [hx] at hd; exact h2 x d hd)
      refine ⟨cl, ?_, a, fun x hx => b x ?_⟩
      · rw [<- e, List.forIn_cons]
        have hcell : cellOf env n = pure c := by unfold cellOf; rw [hc]
        simp only [hk, if_true]
        rw [hcell]
        rfl
      · rcases hx with hx | ⟨d, hd⟩
        · rcases List.mem_cons.mp hx with q | q
          · cases q
            exact .inr ⟨c, by rw [List.lookup_cons]; simp⟩
          · exact .inl q
        · refine .inr ?_
          rw [List.lookup_cons]
          cases hx : x == n with
          | true => exact ⟨c, rfl⟩
          | false => exact ⟨d, hd⟩
    | false =>
      obtain ⟨cl, e, a, b⟩ := clos_loop env r cs (fun x hx => h1 x (List.mem_cons_of_mem _ hx)) h2
      refine ⟨cl, ?_, a, fun x hx => b x ?_⟩
      · rw [<- e, List.forIn_cons]
        simp only [hk, Bool.false_eq_true, if_false]
        rfl
      · rcases hx with hx | hx
        · rcases List.mem_cons.mp hx with q | q
          · cases q
            simp at hk
          · exact .inl q
        · exact .inr hx
theorem clos_ok {scope : Scope} {env : Env} (h1 : ∀ x, (x, NameKind.free) ∈ scope.names -> ∃ c, env.cells.lookup x = some c) :
    ∃ cl : List (Str × Addr), closureFor scope env = pure cl /\ (∀ x c, cl.lookup x = some c -> env.cells.lookup x = some c) /\ ∀ x, (x, NameKind.free) ∈ scope.names -> ∃ c, cl.lookup x = some c := by
  obtain ⟨cl, e, a, b⟩ := clos_loop env scope.names [] h1 (fun x c h => by simp at h)
  refine ⟨cl, ?_, a, fun x hx => b x (.inl hx)⟩
  simp only [closureFor]
  rw [e]
  rfl
def Cx.comp (X : Cx) (sc : Scope) (cl : List (Str × Addr)) (C : Addr) (N : List Str) (s : Shared) (H : Hp) (fp : List Addr) : Cx :=
  { X with N := N, s₀ := s, H₀ := H, env := compEnvC sc cl C X.env, outer := X.stack, ex := fp, fn := fun _ => false, pn := [], xe := fun _ _ => False }
def compChk (N : List Str) (osc sc : Scope) (t : Str) (ys : List Str) (js : List Nat) : Bool :=
  sc.kind == .function && sc.names.all (fun y => y.2 != .cell) && sc.names.all (fun y => y.2 != .local || sc.names.lookup y.1 == some .local) &&
  sc.names.all (fun y => y.2 != .free || osc.names.lookup y.1 == some .cell) && (ys.map some == js.map fun j => N[j]?) &&
  ys.all (fun y => sc.names.lookup y == some .free) && sc.names.lookup t == some .local && decide ((t :: ys).Nodup)
structure CompOk (N : List Str) (osc sc : Scope) (t : Str) (ys : List Str) (js : List Nat) : Prop where
  kind : sc.kind = .function
  ncell : ∀ y ∈ sc.names, y.2 ≠ .cell
  loc : ∀ y ∈ sc.names, y.2 = .local -> sc.names.lookup y.1 = some .local
  fre : ∀ y ∈ sc.names, y.2 = .free -> osc.names.lookup y.1 = some .cell
  ysj : ys.map some = js.map fun j => N[j]?
  ysf : ∀ y ∈ ys, sc.names.lookup y = some .free
  tl : sc.names.lookup t = some .local
  nd : (t :: ys).Nodup
theorem compOk_of {N : List Str} {osc sc : Scope} {t : Str} {ys : List Str} {js : List Nat} (h : compChk N osc sc t ys js = true) : CompOk N osc sc t ys js := by
  unfold compChk at h
  simp only [Bool.and_eq_true, List.all_eq_true, decide_eq_true_eq, Bool.or_eq_true, bne_iff_ne, beq_iff_eq] at h
  obtain ⟨⟨⟨⟨⟨⟨⟨a, b⟩, c⟩, d⟩, e⟩, f⟩, g⟩, i⟩ := h
  exact ⟨a, fun y hy => b y hy, fun y hy z => (c y hy).resolve_left fun q => q z, fun y hy z => (d y hy).resolve_left fun q => q z, e, f, g, i⟩
def compS (js : List Nat) (σ : St) : St := js.map fun j => (σ[j]?).join
theorem relabel_inv {env : Env} {x : Str} : ∀ {names : List (Str × NameKind)} {k : NameKind}, (names.map fun (n, k) => if (k == NameKind.free && env.scope.kind == .function && env.kindOf n == some .cell) then (n, NameKind.cell) else (n, k)).lookup x = some k ->
    names.lookup x = some k \/ (k = .cell /\ names.lookup x = some .free)
  | [], _, h => by simp at h
  | (n, q) :: r, k, h => by
    have ih := @relabel_inv env x r k
    have h' : List.lookup x ((if (q == NameKind.free && env.scope.kind == .function && env.kindOf n == some .cell) = true then (n, NameKind.cell) else (n, q)) :: _) = some k := h
    cases hx : x == n with
    | true =>
      by_cases hc : (q == NameKind.free && env.scope.kind == .function && env.kindOf n == some .cell) = true
      · rw [if_pos hc] at h'
        simp only [List.lookup_cons, hx] at h' ⊢
        have eq : q = .free := by simp only [Bool.and_eq_true, beq_iff_eq] at hc; exact hc.1.1
        cases h'
        exact .inr ⟨rfl, by rw [eq]⟩
      · rw [if_neg hc] at h'
        simp only [List.lookup_cons, hx] at h' ⊢
        exact .inl h'
    | false =>
      by_cases hc : (q == NameKind.free && env.scope.kind == .function && env.kindOf n == some .cell) = true
      · rw [if_pos hc] at h'
        simp only [List.lookup_cons, hx] at h' ⊢
        exact ih h'
      · rw [if_neg hc] at h'
        simp only [List.lookup_cons, hx] at h' ⊢
        exact ih h'
theorem relabel_free {env : Env} {x : Str} : ∀ {names : List (Str × NameKind)}, names.lookup x = some .free ->
    (names.map fun (n, k) => if (k == NameKind.free && env.scope.kind == .function && env.kindOf n == some .cell) then (n, NameKind.cell) else (n, k)).lookup x = some .cell \/
    (names.map fun (n, k) => if (k == NameKind.free && env.scope.kind == .function && env.kindOf n == some .cell) then (n, NameKind.cell) else (n, k)).lookup x = some .free
  | [], h => by simp at h
  | (n, q) :: r, h => by
    have ih := @relabel_free env x r
    show List.lookup x ((if (q == NameKind.free && env.scope.kind == .function && env.kindOf n == some .cell) = true then (n, NameKind.cell) else (n, q)) :: _) = some .cell \/ List.lookup x ((if (q == NameKind.free && env.scope.kind == .function && env.kindOf n == some .cell) = true then (n, NameKind.cell) else (n, q)) :: _) = some .free
    cases hx : x == n with
    | true =>
      simp only [List.lookup_cons, hx] at h
      cases h
      by_cases hc : (NameKind.free == NameKind.free && env.scope.kind == .function && env.kindOf n == some .cell) = true
      · rw [if_pos hc]; exact .inl (by simp only [List.lookup_cons, hx])
      · rw [if_neg hc]; exact .inr (by simp only [List.lookup_cons, hx])
    | false =>
      simp only [List.lookup_cons, hx] at h
      by_cases hc : (q == NameKind.free && env.scope.kind == .function && env.kindOf n == some .cell) = true
      · rw [if_pos hc]; simp only [List.lookup_cons, hx]; exact ih h
      · rw [if_neg hc]; simp only [List.lookup_cons, hx]; exact ih h
def PIf (X : Cx) (ifs : List Expr) (t : TT) : Prop :=
  ∀ (pins : List (Addr × Obj)) (s : Shared) (σ : St) (H : Hp) (Q : Bool -> Hp -> Prop), Inv X pins σ H s -> t σ H Q ->
    wpAny (model X.prog X.w) X.A (forIn ifs true fun c r => if r = true then do let ok <- isTrue c X.env (eval c X.env); pure (ForInStep.yield ok) else pure (ForInStep.yield r)) (TP X pins σ Q) X.xe s
def tYes : TT := fun _ H Q => Q true H
theorem pif_nil {X : Cx} : PIf X [] tYes := fun _ _ _ H _ I h => wpAny_tests_nil ⟨H, I, h⟩
theorem comp_turns {prog : Program} {w : World} {A : Around} {R : Result -> Shared -> Prop} {s : Shared} {elt target iter : Expr} {ifs : List Expr} {scope : Scope} {pos : Pos} {it acc : Value} {env : Env} (J : Nat -> Shared -> Prop)
    (turn : ∀ n s0, J n s0 -> wpAny (model prog w) A (pyNext it) (fun r s1 => match r with
      | none => R (.ok .next) s1
      | some v => wpAny (model prog w) A (letOwnedTupleGo target it v) (fun _ s2 => wpAny (model prog w) A (assign target env v) (fun _ s3 =>
          wpAny (model prog w) A (forIn ifs true fun c r => if r = true then do let ok <- isTrue c env (eval c env); pure (ForInStep.yield ok) else pure (ForInStep.yield r)) (fun ok s4 =>
            if ok = true then wpAny (model prog w) A (eval elt env) (fun x s5 =>
              wpAny (model prog w) A (call (.builtin "list.append") [acc, x]) (fun _ s6 => ∃ m, m < n /\ J m s6) (fun _ _ => False) s5) (fun _ _ => False) s4
            else ∃ m, m < n /\ J m s4) (fun _ _ => False) s3) (fun _ _ => False) s2) (fun _ _ => False) s1) (fun _ _ => False) s0)
    (n : Nat) (h : J n s) : codeAny (model prog w) A (.compLoop (.ListComp elt [⟨target, iter, ifs, 0⟩] scope pos) 0 it acc env) R s := by
  have up : ∀ {α : Type} {t : Sem α} {Q Q' : α -> Shared -> Prop} {E : Value -> Shared -> Prop} {s0 : Shared}, wpAny (model prog w) A t Q (fun _ _ => False) s0 -> (∀ a s', Q a s' -> Q' a s') -> wpAny (model prog w) A t Q' E s0 :=
    fun h0 hq => wpAny_mono h0 hq fun _ _ z => z.elim
  refine codeAny_loop rfl J ?_ n h
  intro k s0 hJ
  show wpAny _ A ((compTurn (.ListComp elt [⟨target, iter, ifs, 0⟩] scope pos) 0 it acc env).onRaise (fun x => do noteFrame x env; theTreesLotGoes x)) _ _ s0
  refine wpAny_noted ?_
  rw [compTurn_list]
  refine wpAny_bind (wpAny_standAt (wpAny_bind (up (turn k s0 hJ) fun r s1 h1 => ?_)))
  cases r with
  | none => exact wpAny_pure h1
  | some v =>
    refine wpAny_bind (up h1 fun _ s2 h2 => wpAny_bind (up h2 fun _ s3 h3 => wpAny_bind (up h3 fun ok s4 h4 => ?_)))
    cases ok with
    | false => exact wpAny_pure ⟨rfl, h4⟩
    | true => exact wpAny_bind (wpAny_bind (up h4 fun x s5 h5 => wpAny_bind (up h5 fun _ s6 h6 => wpAny_pure (wpAny_pure ⟨rfl, h6⟩))))
def CompW (J : It) (js : List Nat) (tc : TT) (te : TE) (σ : St) (Q : VK) (D : Addr) (H1 : Hp) : Prop := ∃ W : Nat -> Nat -> List V -> Hp -> Prop, (∃ m, W 0 m [] (upd H1 D (.lst []))) /\
  ∀ i m acc H, W i m acc H -> H D = some (.lst acc) /\ acc.length < sizeLine /\ ((J.stop i H /\ Q (.ref D) H) \/ (J.go i H /\ ∀ x H', J.yld i H x H' -> tc (some x :: compS js σ) H' fun c H3 =>
    if c = true then te (some x :: compS js σ) H3 fun y H4 => H4 D = some (.lst acc) /\ ∃ m', m' < m /\ W (i + 1) m' (acc ++ [y]) (upd H4 D (.lst (acc ++ [y]))) else ∃ m', m' < m /\ W (i + 1) m' acc H3))
def tComp (wi : TI) (js : List Nat) (tc : TT) (te : TE) : TE := fun σ H Q => wi σ H fun J H1 => ∀ D, H1 D = none -> CompW J js tc te σ Q D H1
theorem pe_comp {X : Cx} {elt iter : Expr} {ifs : List Expr} {sc : Scope} {pos px : Pos} {t : Str} {ys : List Str} {js : List Nat} {wi : TI} {tc : TT} {te : TE} (hc : X.calm = true) (hck : compChk X.N X.env.scope sc t ys js = true)
    (hi : PI X (.Name t px) iter wi) (hf : ∀ cl C s H fp, PIf (X.comp sc cl C (t :: ys) s H fp) ifs tc) (he : ∀ cl C s H fp, PE (X.comp sc cl C (t :: ys) s H fp) elt te)
    (hs : ∀ x, foldedSetIterable iter X.env x = pure x := by intro _; rfl) : PE X (.ListComp elt [⟨.Name t px, iter, ifs, 0⟩] sc pos) (tComp wi js tc te) := by
  have ck := compOk_of hck
  intro pins s σ H Q I h
  have hfr : ∀ x, (x, NameKind.free) ∈ sc.names -> ∃ c, X.env.cells.lookup x = some c := fun x hx => I.ok.has x (.inl (ck.fre _ hx rfl))
  obtain ⟨cl, hcl, cl1, cl2⟩ := clos_ok hfr
  rw [eval_ListComp]
  refine wpAny_comprehension_free (use := none) rfl hs hcl ck.kind ck.loc (thn (hi pins s σ H _ I h) fun v s1 h1 => thn h1 fun itv s2 h2 => ?_)
  obtain ⟨it, fp, tn, J, H2, e, I2, T, st2, f2, hR⟩ := h2
  subst e
  refine wpAny_newObj_type (wpAny_newFunctionEnv ck.ncell (by intro y hy; simp at hy) (fun h1 hns hsb => ?_) ck.kind)
  dsimp only at hns hsb ⊢
  generalize hp : s2.heap.push { cls := .type "list", dict := none, data := .seq ([] : List Value).toArray } = hh at hns hsb ⊢
  have hC : hh.objs.size = s2.heap.objs.size + 1 := by rw [<- hp, Heap.size_push]
  have neD : ∀ {b : Addr}, b < s2.heap.objs.size -> b ≠ s2.heap.objs.size := fun hb => Nat.ne_of_lt hb
  have neC : ∀ {b : Addr}, b < s2.heap.objs.size -> b ≠ hh.objs.size := fun hb => by rw [hC]; exact Nat.ne_of_lt (Nat.lt_succ_of_lt hb)
  have hDC : s2.heap.objs.size ≠ hh.objs.size := by rw [hC]; exact Nat.ne_of_lt (Nat.lt_succ_self _)
  have hCle : s2.heap.objs.size <= hh.objs.size := by rw [hC]; exact Nat.le_succ _
  have old : ∀ b o, s2.heap.get? b = some o -> h1.get? b = some o := fun b o e => hsb.extBut b o (neC (Heap.lt_size e)) (Heap.get?_push_of_some _ (hp ▸ Heap.get?_push_of_some _ e))
  have hnew : h1.get? s2.heap.objs.size = some { cls := .type "list", dict := none, data := .seq ([] : List Value).toArray } := hsb.extBut _ _ hDC (Heap.get?_push_of_some _ (hp ▸ Heap.get?_push_size _ rfl))
  have fpH : ∀ b ∈ fp, ∃ o, s2.heap.get? b = some o := fun b hb => let ⟨o, e, _⟩ := T.obj 0 _ st2 b hb; ⟨o, e⟩
  have fpD : ∀ b ∈ fp, b ≠ s2.heap.objs.size := fun b hb => by obtain ⟨o, e⟩ := fpH b hb; exact neD (Heap.lt_size e)
  have fpC : ∀ b ∈ fp, b ≠ hh.objs.size := fun b hb => by obtain ⟨o, e⟩ := fpH b hb; exact neC (Heap.lt_size e)
  have fpS : ∀ b ∈ fp, b ∉ frs X.stack := fun b hb z => (List.mem_cons.mp (I2.stkSub b z)).elim (f2 b hb).2.1 (f2 b hb).2.2.1
  have hok' : (X.comp sc cl hh.objs.size (t :: ys) s2 H2 fp).Ok := by
    refine ⟨I2.ok.mod, ck.kind, I2.ok.glob, I2.ok.blt, hCle, fun x y c a b => I2.ok.inj x y c (cl1 x c a) (cl1 y c b), fun x hx => ?_, (fun x c z => nomatch z), I2.ok.hd, I2.ok.frames, .inl rfl, fun b hb => ⟨fpC b hb, fun x c a => (f2 b hb).2.2.2.2.1 x c (cl1 x c a)⟩,
      I2.bs, Nat.le_trans I2.ok.bsz I2.sz, fun b o e hb => ?_, fun b hb => fpS b hb, I2.stack, I2.stkFree⟩
    · have hx' : (sc.names.map fun (n, k) => if (k == NameKind.free && X.env.scope.kind == .function && X.env.kindOf n == some .cell) then (n, NameKind.cell) else (n, k)).lookup x = some .cell \/ (sc.names.map fun (n, k) => if (k == NameKind.free && X.env.scope.kind == .function && X.env.kindOf n == some .cell) then (n, NameKind.cell) else (n, k)).lookup x = some .free := hx
      rcases hx' with z | z
      · rcases relabel_inv z with q | ⟨_, q⟩
        · exact absurd rfl (ck.ncell _ (PySem.mem_of_lookup q))
        · exact cl2 x (PySem.mem_of_lookup q)
      · rcases relabel_inv z with q | ⟨q, _⟩
        · exact cl2 x (PySem.mem_of_lookup q)
        · cases q
    · rcases (f2 b hb).2.2.2.1 with z | z
      · exact I2.ok.noex b o e z
      · exact absurd (Nat.lt_of_lt_of_le (Heap.lt_size e) (Nat.le_trans I2.ok.bsz z)) (Nat.lt_irrefl _)
  have Iin : ∀ tk : Nat, Inv (X.comp sc cl hh.objs.size (t :: ys) s2 H2 fp) [] (none :: compS js σ) (upd H2 s2.heap.objs.size (.lst [])) { s2 with heap := h1, toks := tk } := fun tk => by
    refine ⟨hok', rfl, I2.bare, Un.laid old (Nat.le_refl _) I2.fresh, ⟨_, hns, fun i x v e1 e2 e3 => ?_⟩, fun x c e => ?_, ?_, fun x c e => ?_, fun p hp => absurd (show p ∈ ([] : List (Addr × Obj)) from hp) (by simp), I2.hok.laid old (Nat.le_refl _) ⟨Nat.zero_le _, [], 0, .nil, hnew⟩, ?_⟩
    · cases i with
      | zero => simp at e2
      | succ k =>
        have e1' : ys[k]? = some x := e1
        have e2' : (compS js σ)[k]? = some (some v) := by simpa using e2
        unfold compS at e2'
        rw [List.getElem?_map] at e2'
        have q := congrArg (fun l => l[k]?) ck.ysj
        simp only [List.getElem?_map, e1', Option.map_some] at q
        cases hj : js[k]? with
        | none => rw [hj] at q; cases q
        | some j =>
          rw [hj] at q e2'
          have q1 : X.N[j]? = some x := (Option.some.inj q).symm
          have q2 : σ[j]? = some (some v) := by
            have z : (σ[j]?).join = some v := Option.some.inj e2'
            cases hz : σ[j]? with
            | none => rw [hz] at z; cases z
            | some y => rw [hz] at z; exact congrArg some z
          have hf' := ck.ysf x (List.mem_of_getElem? e1')
          have hcell := ck.fre _ (PySem.mem_of_lookup hf') rfl
          obtain ⟨m2, hn2, hl2⟩ := I2.loc
          obtain ⟨u, ru, lk⟩ := hl2 j x v q1 q2 (.inr (.inl hcell))
          refine ⟨u, ru, ?_⟩
          rcases lk with ⟨kk, _⟩ | ⟨_, c, ec, ic⟩
          · have kk' : X.env.scope.names.lookup x = some .local := kk
            have hcell' : X.env.scope.names.lookup x = some .cell := hcell
            rw [hcell'] at kk'; cases kk'
          · obtain ⟨c', ec'⟩ := cl2 x (PySem.mem_of_lookup hf')
            have : c' = c := Option.some.inj ((cl1 x c' ec').symm.trans ec)
            subst this
            refine .inr ⟨relabel_free hf', c', ec', ?_⟩
            obtain ⟨o, ho, hd⟩ := ic
            exact ⟨o, old _ o ho, hd⟩
    · obtain ⟨v, o, ho, hd⟩ := I2.cell x c (cl1 x c e)
      exact ⟨v, o, old _ o ho, hd⟩
    · show upd H2 s2.heap.objs.size _ hh.objs.size = none
      rw [upd_ne (Ne.symm hDC)]
      exact I2.hok.fresh hCle
    · obtain ⟨v, o, ho, hd⟩ := I2.cell x c (cl1 x c e)
      rw [upd_ne (neD (Heap.lt_size ho))]
      exact I2.freeC x c (cl1 x c e)
    · show (none :: compS js σ).length = (t :: ys).length
      have q := congrArg List.length ck.ysj
      simp only [List.length_map] at q
      unfold compS
      simp only [List.length_cons, List.length_map]
      omega
  have st1 : tn 0 h1 := T.keep _ _ _ st2 fun b hb o e => old b o e
  obtain ⟨W, ⟨m0, w0⟩, turn⟩ := hR s2.heap.objs.size I2.fresh
  have fpok : ∀ {H' : Hp}, (∀ b ∈ fp, H' b = none) -> ∀ b ∈ fp, FpOk (X.comp sc cl hh.objs.size (t :: ys) s2 H2 fp) [] H' b := fun hn b hb =>
    ⟨hn b hb, fpC b hb, fpS b hb, .inl hb, fun x c a => (f2 b hb).2.2.2.2.1 x c (cl1 x c a), fun p hp => absurd (show p ∈ ([] : List (Addr × Obj)) from hp) (by simp)⟩
  have ndN : (t :: ys).Nodup := ck.nd
  have loop : ∀ s3 : Shared, s3 = { s2 with heap := h1, toks := s2.toks + ([] : List (Str × Value)).length } ->
      codeAny (model X.prog X.w) X.A (.compLoop (.ListComp elt [⟨.Name t px, iter, ifs, 0⟩] sc pos) 0 (.ref it) (.ref s2.heap.objs.size) (compEnvC sc cl hh.objs.size X.env))
        (compPost (model X.prog X.w) X.A X.xe none (EP X pins σ Q) (.ref s2.heap.objs.size) hh.objs.size) s3 := by
    rintro s3 rfl
    refine comp_turns (fun n s' => ∃ i acc H', Inv (X.comp sc cl hh.objs.size (t :: ys) s2 H2 fp) [] (none :: compS js σ) H' s' /\ tn i s'.heap /\ (∀ b ∈ fp, H' b = none) /\ W i n acc H') ?_ m0
      ⟨0, [], _, Iin _, st1, fun b hb => by rw [upd_ne (fpD b hb)]; exact (f2 b hb).1, w0⟩
    rintro n s3 ⟨i, acc, H3, I3, st3, fr3, w3⟩
    obtain ⟨hD, hz, alt⟩ := turn i n acc H3 w3
    rcases alt with ⟨stop, q⟩ | ⟨go, step⟩
    · refine thn (T.done (X.comp sc cl hh.objs.size (t :: ys) s2 H2 fp) rfl rfl rfl hc i [] s3 _ H3 _ I3 (fpok fr3) st3 stop) fun r s4 ⟨hr, I4⟩ => ?_
      subst hr
      obtain ⟨m, hn, _⟩ := id I4.loc
      refine ⟨m, hn, fun h' sb => ⟨.ref s2.heap.objs.size, H3, ?_, rfl, q⟩⟩
      have ltC : ∀ b o, s2.heap.get? b = some o -> b ≠ hh.objs.size := fun b o e => neC (Heap.lt_size e)
      have b4 : Un (frs X.stack) fp H2 H3 s2.heap s4.heap := I4.base
      refine I2.call' (s' := { s4 with heap := h' }) (ch := fp) I4.os ⟨fun b o e n1 n2 n3 => (sb.2 b (ltC b o e)).trans (b4.keep b o e n1 n2 n3), fun b o e n1 n2 n3 => ?_, b4.free, fun b o e n1 => ?_, b4.tups, b4.frzs, b4.tbls⟩ (fun b ob e => ?_) I4.bare
        (fun b hb => ⟨(f2 b hb).2.2.2.1, (f2 b hb).2.1, (f2 b hb).2.2.2.2.1, (f2 b hb).2.2.2.2.2⟩)
      · obtain ⟨sl, e1⟩ := b4.slot b o e n1 n2 n3
        exact ⟨sl, (sb.2 b (ltC b o e)).trans e1⟩
      · obtain ⟨o', e1⟩ := b4.there b o e n1
        exact ⟨o', (sb.2 b (ltC b o e)).trans e1⟩
      · have hfree : H3 hh.objs.size = none := I4.free
        refine (I4.hok b ob e).stay (fun c w' hc' q' => (sb.2 c ?_).trans q') (fun _ q' => q') fun _ _ q' => q'
        rintro rfl
        rcases hc' with rfl | hc'
        · rw [hfree] at e; cases e
        · rw [hfree] at hc'; cases hc'
    · refine thn (T.item (X.comp sc cl hh.objs.size (t :: ys) s2 H2 fp) rfl rfl rfl hc i [] s3 _ H3 _ I3 (fpok fr3) st3 go) fun r s4 ⟨u, hr, h4⟩ => ?_
      subst hr
      refine thn h4 fun _ s5 ⟨x, H5, I5, r5, y5, st5, fr5⟩ => ?_
      have I5' := I5.pinned (fpok fr5) (T.obj _ _ st5)
      refine wpAny_assign_Name (store_ok (i := 0) I5' ndN rfl (.inl (lookup_relabel_local ck.tl)) r5 (fun s6 I6 => ?_) (.inr (lookup_relabel_local ck.tl)))
      have again : ∀ {H7 : Hp} {s7 : Shared} {m' : Nat} {acc' : List V}, Inv (X.comp sc cl hh.objs.size (t :: ys) s2 H2 fp) ([] ++ pinsAt fp s5.heap) (some x :: compS js σ) H7 s7 -> m' < n -> W (i + 1) m' acc' H7 ->
          ∃ m, m < n /\ ∃ i acc H', Inv (X.comp sc cl hh.objs.size (t :: ys) s2 H2 fp) [] (none :: compS js σ) H' s7 /\ tn i s7.heap /\ (∀ b ∈ fp, H' b = none) /\ W i m acc H' := fun {H7 s7 m' acc'} I7 hm w7 => by
        refine ⟨m', hm, i + 1, acc', H7, (I7.unpinned).weak rfl (fun k v e => ?_), T.keep _ _ _ st5 fun b hb o e => (I7.pin (b, o) (List.mem_append_right _ (List.mem_append_right _ (mem_pinsAt hb e)))).1, fun b hb => ?_, w7⟩
        · cases k with
          | zero => simp at e
          | succ k => simpa using e
        · obtain ⟨o, e, d⟩ := T.obj _ _ st5 b hb
          exact (I7.pin (b, o) (List.mem_append_right _ (List.mem_append_right _ (mem_pinsAt hb e)))).2.1
      refine thn (hf _ _ _ _ _ _ s6 _ H5 _ I6 (step x H5 y5)) fun ok s7 ⟨H7, I7, q7⟩ => ?_
      cases ok with
      | false =>
        obtain ⟨m', hm, w7⟩ := q7
        exact again I7 hm w7
      | true =>
        refine thn (he _ _ _ _ _ _ s7 _ H7 _ I7 q7) fun uy s8 ⟨y, H8, I8, r8, hD8, m', hm, w8⟩ => ?_
        refine thn (mt_append (X := X.comp sc cl hh.objs.size (t :: ys) s2 H2 fp) _ s8 _ H8 (.ref s2.heap.objs.size) [y] (.ref s2.heap.objs.size) [uy] (fun _ H9 => W (i + 1) m' (acc ++ [y]) H9) I8 rfl (.cons r8 .nil) ⟨_, acc, y, rfl, rfl, hD8, hz, w8⟩) fun _ s9 ⟨_, H9, I9, _, q9⟩ => ?_
        exact again I9 hm q9
  exact codeAny_compStart_list (loop _ rfl) (T.self _ 0 _ _ _ st1 (loop _ rfl))
theorem cstep {n i m : Nat} {A B : Prop} (hi : i < n) (hm : m = n - i) (a : A) (b : B) : A /\ ∃ m', m' < m /\ (m' = n - (i + 1) /\ i + 1 <= n /\ B) := ⟨a, n - (i + 1), by omega, rfl, hi, b⟩
theorem comp_rng {lo : Int} {n : Nat} {js : List Nat} {te : TE} {σ : St} {Q : VK} {D : Addr} {H1 : Hp} (Pv : Nat -> List V -> Hp -> Prop) (hz : n < sizeLine) (h0 : Pv 0 [] (upd H1 D (.lst [])))
    (hl : ∀ i acc H, Pv i acc H -> H D = some (.lst acc) /\ acc.length = i)
    (hs : ∀ i m acc H, i < n -> Pv i acc H -> m = n - i -> te (some (.int (lo + i)) :: compS js σ) H fun y H4 => H4 D = some (.lst acc) /\ ∃ m', m' < m /\ (m' = n - (i + 1) /\ i + 1 <= n /\ Pv (i + 1) (acc ++ [y]) (upd H4 D (.lst (acc ++ [y])))))
    (hd : ∀ acc H, Pv n acc H -> Q (.ref D) H) : CompW (Itr lo n) js tYes te σ Q D H1 := by
  refine ⟨fun i m acc H => m = n - i /\ i <= n /\ Pv i acc H, ⟨n, by simp, Nat.zero_le _, h0⟩, ?_⟩
  rintro i m acc H ⟨hm, hi, p⟩
  obtain ⟨hD, hlen⟩ := hl i acc H p
  refine ⟨hD, by omega, ?_⟩
  by_cases hlt : i < n
  · refine .inr ⟨hlt, fun x H' y => ?_⟩
    obtain ⟨e, y⟩ := y
    subst e y
    unfold tYes
    dsimp only
    rw [if_pos rfl]
    exact hs i m acc _ hlt p hm
  · have e : i = n := by omega
    subst e
    exact .inl ⟨Nat.le_refl _, hd acc H p⟩
theorem comp_lst {K : PySem.W.Frag} {a : Addr} {xs : List V} {js : List Nat} {te : TE} {σ : St} {Q : VK} {D : Addr} {H1 : Hp} (Pv : Nat -> List V -> Hp -> Prop) (hz : xs.length < sizeLine) (h0 : Pv 0 [] (upd H1 D (.lst [])))
    (hl : ∀ i acc H, Pv i acc H -> H D = some (.lst acc) /\ acc.length = i /\ SqL K H a xs)
    (hs : ∀ i m x acc H, xs[i]? = some x -> Pv i acc H -> m = xs.length - i -> te (some x :: compS js σ) H fun y H4 => H4 D = some (.lst acc) /\ ∃ m', m' < m /\ (m' = xs.length - (i + 1) /\ i + 1 <= xs.length /\ Pv (i + 1) (acc ++ [y]) (upd H4 D (.lst (acc ++ [y])))))
    (hd : ∀ acc H, Pv xs.length acc H -> Q (.ref D) H) : CompW (Itl K a) js tYes te σ Q D H1 := by
  refine ⟨fun i m acc H => m = xs.length - i /\ i <= xs.length /\ Pv i acc H, ⟨xs.length, by simp, Nat.zero_le _, h0⟩, ?_⟩
  rintro i m acc H ⟨hm, hi, p⟩
  obtain ⟨hD, hlen, hq⟩ := hl i acc H p
  refine ⟨hD, by omega, ?_⟩
  by_cases hlt : i < xs.length
  · refine .inr ⟨⟨xs, xs[i], hq, by simp [hlt]⟩, fun x H' y => ?_⟩
    obtain ⟨e, y⟩ := y
    subst e
    unfold tYes
    dsimp only
    rw [if_pos rfl]
    exact hs i m x acc _ (y xs hq) p hm
  · have e : i = xs.length := by omega
    subst e
    exact .inl ⟨⟨xs, hq, Nat.le_refl _⟩, hd acc H p⟩
end L2
namespace L2
open PySem PySem.Spec PyProof.Rows
section
variable {X : Cx}
def rSlS : V -> Option Int -> Option Int -> Hp -> VK -> Prop := fun x lo hi H Q => ∃ z, x = .str z /\ z.length <= sizeLine /\ Q (.str (Txt.slice z lo hi)) H
theorem sl_str : SlR X rSlS := by
  intro pins s σ H x v vl vu lo hi sl Q I rx hs pl pu h
  obtain ⟨z, rfl, hz, q⟩ := h
  obtain ⟨t, rfl⟩ := rx
  have fin : ∀ (c : Prop) [Decidable c] (y w : Str), (if c then y else w) = Txt.slice z lo hi -> (if c then Made.val (.str y t) else Made.str w).post (EP X pins σ Q) s := fun c _ y w e =>
    post_val_or_str ⟨by rw [e]; exact Nat.le_trans (Txt.slice_le z _ _) hz, fun t' k => by rw [e]; exact ⟨.str _, H, I.tok k, ⟨t', rfl⟩, q⟩⟩
  refine ⟨"str", _, F.slot_str_getitem.lookup, typeIs_str _ _ _, ?_⟩
  cases pl with
  | none =>
    cases pu with
    | none => exact wpAny_getItem_str_slice (l := none) (u := none) (st := none) hs rfl (fin _ _ _ rfl)
    | int j tj => exact wpAny_getItem_str_slice (l := none) (u := some (j, tj)) (st := none) hs rfl (fin _ _ _ rfl)
  | int i ti =>
    cases pu with
    | none => exact wpAny_getItem_str_slice (l := some (i, ti)) (u := none) (st := none) hs rfl (fin _ _ _ rfl)
    | int j tj => exact wpAny_getItem_str_slice (l := some (i, ti)) (u := some (j, tj)) (st := none) hs rfl (fin _ _ _ rfl)
theorem strsAre_of : ∀ {ys : List Str} {us : List Value}, Vals (ys.map V.str) us -> StrsAre us ys := by
  intro ys
  induction ys with
  | nil => intro us r; rw [List.map_nil] at r; cases r; exact .nil
  | cons n ns ih =>
    intro us r
    rw [List.map_cons] at r
    cases r with
    | cons r1 r2 =>
      obtain ⟨t, e⟩ := r1
      subst e
      exact .cons n t (ih r2)
def rJoin (K : PySem.W.Frag) : V -> List V -> Hp -> VK -> Prop := fun x vs H Q => ∃ z l ys, x = .str z /\ vs = [.ref l] /\ SqL K H l (ys.map V.str) /\ (ys.map (·.length)).sum + ys.length * z.length <= 16777216 /\ Q (.str (Txt.join z ys)) H
theorem mt_join : MtR X "str.join" (rJoin X.K) := by
  intro pins s σ H x vs v us Q I rx rv h
  obtain ⟨z, l, ys, rfl, rfl, hq, hz, q⟩ := h
  obtain ⟨t, rfl⟩ := rx
  obtain ⟨u, rfl, ru⟩ := rv.one
  cases ru
  obtain ⟨its, r, p, _⟩ := I.list hq
  exact join_list p.isList (strsAre_of (by simpa using r)) hz fun t' k => ⟨.str _, H, I.tok k, ⟨t', rfl⟩, q⟩
theorem same_new {H : Hp} {p : Addr} (h : H p = none) (o : HO) : Same H (upd H p o) := fun b u q => by rw [upd_ne (ne_of_none q h)]; exact q
end
end L2
namespace L2
open PySem PySem.Spec PyProof.Rows
section
variable {X : Cx}
theorem call_isinst : CallR X (.builtin "isinstance") (fun xs H Q => ∃ x T t b, xs = [x, .ty T] /\ TyOf X.K H x t /\ PySem.W.kitOne X.K t (.type T) = some b /\ Q (.bl b) H) := by
  intro pins s σ H xs us Q I r h
  obtain ⟨x, T, t, b, rfl, ty, e, q⟩ := h
  obtain ⟨u, w, rfl, ru, rw'⟩ := vals2 r
  cases rw'
  exact isinst_ok I ru ty e fun tk => ⟨.bl b, H, I.tok tk, rfl, q⟩
end
end L2
namespace L2
open PySem PySem.Spec PyProof.Rows
section
variable {X : Cx} {es : List Expr} {te : TE} {t : TA} {env : Env}
theorem starT {a : List Expr} {k : Nat} {p : Pos} : starEach (.Tuple a k p :: es) env = (false, eval (.Tuple a k p) env) :: starEach es env := by first | rfl | (rw [starEach]; intro _ _ z; cases z)
theorem paT {a : List Expr} {k : Nat} {p : Pos} (ha : PE X (.Tuple a k p) te) (hr : PA X es t) : PA X (.Tuple a k p :: es) (tCons te t) := pa_cons ha hr starT
theorem starL {a : List Expr} {p : Pos} : starEach (.List a p :: es) env = (false, eval (.List a p) env) :: starEach es env := by first | rfl | (rw [starEach]; intro _ _ z; cases z)
theorem paL {a : List Expr} {p : Pos} (ha : PE X (.List a p) te) (hr : PA X es t) : PA X (.List a p :: es) (tCons te t) := pa_cons ha hr starL
theorem starC {c : Const} {k : Nat} {p : Pos} : starEach (.Constant c k p :: es) env = (false, eval (.Constant c k p) env) :: starEach es env := by first | rfl | (rw [starEach]; intro _ _ z; cases z)
theorem paC {c : Const} {k : Nat} {p : Pos} (ha : PE X (.Constant c k p) te) (hr : PA X es t) : PA X (.Constant c k p :: es) (tCons te t) := pa_cons ha hr starC
theorem starN {x : Str} {p : Pos} : starEach (.Name x p :: es) env = (false, eval (.Name x p) env) :: starEach es env := by first | rfl | (rw [starEach]; intro _ _ z; cases z)
theorem paN {x : Str} {p : Pos} (ha : PE X (.Name x p) te) (hr : PA X es t) : PA X (.Name x p :: es) (tCons te t) := pa_cons ha hr starN
theorem starB {l r : Expr} {o : Operator} {p : Pos} : starEach (.BinOp l o r p :: es) env = (false, eval (.BinOp l o r p) env) :: starEach es env := by first | rfl | (rw [starEach]; intro _ _ z; cases z)
theorem paB {l r : Expr} {o : Operator} {p : Pos} (ha : PE X (.BinOp l o r p) te) (hr : PA X es t) : PA X (.BinOp l o r p :: es) (tCons te t) := pa_cons ha hr starB
theorem starS {v i : Expr} {p : Pos} : starEach (.Subscript v i p :: es) env = (false, eval (.Subscript v i p) env) :: starEach es env := by first | rfl | (rw [starEach]; intro _ _ z; cases z)
theorem paS {v i : Expr} {p : Pos} (ha : PE X (.Subscript v i p) te) (hr : PA X es t) : PA X (.Subscript v i p :: es) (tCons te t) := pa_cons ha hr starS
theorem starK {f : Expr} {a : List Expr} {k : List Keyword} {p : Pos} : starEach (.Call f a k p :: es) env = (false, eval (.Call f a k p) env) :: starEach es env := by first | rfl | (rw [starEach]; intro _ _ z; cases z)
theorem paK {f : Expr} {a : List Expr} {k : List Keyword} {p : Pos} (ha : PE X (.Call f a k p) te) (hr : PA X es t) : PA X (.Call f a k p :: es) (tCons te t) := pa_cons ha hr starK
theorem starI {c a b : Expr} {p : Pos} : starEach (.IfExp c a b p :: es) env = (false, eval (.IfExp c a b p) env) :: starEach es env := by first | rfl | (rw [starEach]; intro _ _ z; cases z)
theorem paI {c a b : Expr} {p : Pos} (ha : PE X (.IfExp c a b p) te) (hr : PA X es t) : PA X (.IfExp c a b p :: es) (tCons te t) := pa_cons ha hr starI
theorem starO {o : BoolOp} {v : List Expr} {p : Pos} : starEach (.BoolOp o v p :: es) env = (false, eval (.BoolOp o v p) env) :: starEach es env := by first | rfl | (rw [starEach]; intro _ _ z; cases z)
theorem paO {o : BoolOp} {v : List Expr} {p : Pos} (ha : PE X (.BoolOp o v p) te) (hr : PA X es t) : PA X (.BoolOp o v p :: es) (tCons te t) := pa_cons ha hr starO
theorem starE {e : Expr} {g : List Comprehension} {s : Scope} {p : Pos} : starEach (.ListComp e g s p :: es) env = (false, eval (.ListComp e g s p) env) :: starEach es env := by first | rfl | (rw [starEach]; intro _ _ z; cases z)
theorem paE {e : Expr} {g : List Comprehension} {s : Scope} {p : Pos} (ha : PE X (.ListComp e g s p) te) (hr : PA X es t) : PA X (.ListComp e g s p :: es) (tCons te t) := pa_cons ha hr starE
theorem starJ {v : List Expr} {p : Pos} : starEach (.JoinedStr v p :: es) env = (false, eval (.JoinedStr v p) env) :: starEach es env := by first | rfl | (rw [starEach]; intro _ _ z; cases z)
theorem paJ {v : List Expr} {p : Pos} (ha : PE X (.JoinedStr v p) te) (hr : PA X es t) : PA X (.JoinedStr v p :: es) (tCons te t) := pa_cons ha hr starJ
theorem starA {v : Expr} {n : Str} {p : Pos} : starEach (.Attribute v n p :: es) env = (false, eval (.Attribute v n p) env) :: starEach es env := by first | rfl | (rw [starEach]; intro _ _ z; cases z)
theorem paA {v : Expr} {n : Str} {p : Pos} (ha : PE X (.Attribute v n p) te) (hr : PA X es t) : PA X (.Attribute v n p :: es) (tCons te t) := pa_cons ha hr starA
end
end L2
namespace L2
open PySem PySem.Spec PyProof.Rows
abbrev Big : Int := 1000000000000000000
theorem iteY {c : Bool} {A B : Prop} (h : c = true) (q : A) : if c = true then A else B := by rw [if_pos h]; exact q
theorem iteYd {p : Prop} [Decidable p] {A B : Prop} (h : p) (q : A) : if decide p = true then A else B := by rw [if_pos (decide_eq_true h)]; exact q
theorem iteNd {p : Prop} [Decidable p] {A B : Prop} (h : ¬ p) (q : B) : if decide p = true then A else B := by rw [if_neg (by rw [decide_eq_false h]; decide)]; exact q
theorem iteDd {p : Prop} [Decidable p] {A B : Prop} (h1 : p -> A) (h2 : ¬ p -> B) : if decide p = true then A else B := by
  by_cases h : p
  · exact iteYd h (h1 h)
  · exact iteNd h (h2 h)
section
variable {K : PySem.W.Frag}
theorem k_ss : PySem.W.kitOne K (.type "str") (.type "str") = some true := by with_unfolding_all rfl
theorem k_ts : PySem.W.kitOne K (.type "tuple") (.type "str") = some false := by with_unfolding_all rfl
theorem k_is' : PySem.W.kitOne K (.type "int") (.type "str") = some false := by with_unfolding_all rfl
theorem k_tt : PySem.W.kitOne K (.type "tuple") (.type "tuple") = some true := by with_unfolding_all rfl
theorem k_ii : PySem.W.kitOne K (.type "int") (.type "int") = some true := by with_unfolding_all rfl
theorem k_ib : PySem.W.kitOne K (.type "int") (.type "bool") = some false := by with_unfolding_all rfl
theorem isd_str {H : Hp} (n : Str) : Isd K H (.fl (.str n)) (.str n) := by unfold Isd; exact ⟨rfl, rfl⟩
theorem isds_nil {H : Hp} : Isds K H [] [] := by unfold Isds; rfl
theorem isds_cons {H : Hp} {d : Da} {ds : List Da} {v : V} {vs : List V} (h : Isd K H d v) (t : Isds K H ds vs) : Isds K H (d :: ds) (v :: vs) := by unfold Isds; exact ⟨_, _, rfl, h, t⟩
theorem isds_strs {H : Hp} : ∀ ns : List Str, Isds K H (ns.map fun n => Da.fl (.str n)) (ns.map V.str)
  | [] => isds_nil
  | n :: ns => isds_cons (isd_str n) (isds_strs ns)
end
theorem dep_strs : ∀ ns : List Str, depDs (ns.map fun n => Da.fl (.str n)) = 0
  | [] => by unfold depDs; rfl
  | n :: ns => by
    rw [List.map_cons]
    unfold depDs
    rw [dep_strs ns]
    unfold depD
    rfl
theorem fits2 {n : Nat} (h : n <= 100000) : n <= sizeLine := Nat.le_trans h (by decide)
theorem fitsL {n : Nat} (h : n <= 100000) : n < sizeLine := Nat.lt_of_le_of_lt h (by decide)
theorem same_upd {H H' : Hp} {D : Addr} {o : HO} (hn : H D = none) (s : Same H H') : Same H (upd H' D o) := fun b u q => by rw [upd_ne (ne_of_none q hn)]; exact s b u q
theorem small_log {n : Int} (h0 : 0 <= n) (h1 : n < Big) : n.natAbs.log2 < 1920 := by
  have h : n.natAbs < 2 ^ 60 := by
    have : n < 1152921504606846976 := by have : Big = 1000000000000000000 := rfl; omega
    have e : (2 : Nat) ^ 60 = 1152921504606846976 := by decide
    omega
  by_cases z : n.natAbs = 0
  · rw [z]
    decide
  · exact Nat.lt_of_lt_of_le ((Nat.log2_lt z).mpr h) (by decide)
end L2
namespace L2
open PySem PySem.Spec PyProof.Rows
section
variable {X : Cx}
theorem ints_items {its : List Value} {ns : List Int} (hi : IntsAre its ns) : ∃ xs : Array (Int × Tok), its.toArray = intItems xs /\ ns = xs.toList.map (·.1) := by
  obtain ⟨xs, e⟩ := hi.allInts.items
  exact ⟨xs, e, by rw [<- hi.numsOf, <- nums_intItems, <- e]⟩
theorem call_sum (hc : X.calm = true) : CallR X (.builtin "sum") (fun xs H Q => ∃ (p : Addr) (ns : List Int), xs = [.ref p] /\ SqL X.K H p (ns.map V.int) /\ Q (.int ns.sum) H) := by
  intro pins s σ H xs us Q I r h
  obtain ⟨p, ns, rfl, hq, q⟩ := h
  obtain ⟨u, rfl, ru⟩ := vals1 r
  cases ru
  obtain ⟨its, rv, pl, _⟩ := I.list hq
  obtain ⟨xs, e, hns⟩ := ints_items (intsAre_of rv)
  have hl := pl.isList
  rw [e] at hl
  refine sum_intListG (I.ok.hd hc) hl fun h' tk t' hk => ⟨.int _, H, I.kept hk, ⟨t', rfl⟩, ?_⟩
  rw [preSum_eq, List.take_of_length_le (by simp), <- hns]
  exact q
theorem call_maxL (hc : X.calm = true) : CallR X (.builtin "max") (fun xs H Q => ∃ (p : Addr) (ns : List Int), xs = [.ref p] /\ SqL X.K H p (ns.map V.int) /\ ns ≠ [] /\ ∀ M, M ∈ ns -> (∀ a ∈ ns, a <= M) -> Q (.int M) H) := by
  intro pins s σ H xs us Q I r h
  obtain ⟨p, ns, rfl, hq, hne, q⟩ := h
  obtain ⟨u, rfl, ru⟩ := vals1 r
  cases ru
  obtain ⟨its, rv, pl, _⟩ := I.list hq
  obtain ⟨xs, e, hns⟩ := ints_items (intsAre_of rv)
  have hl := pl.isList
  rw [e] at hl
  have hsz : 0 < xs.size := by
    have z : 0 < ns.length := List.length_pos_iff.mpr hne
    rw [hns, List.length_map, Array.length_toList] at z
    exact z
  refine max_intList (I.ok.hd hc) hl hsz fun v h' tk hv hk => ?_
  obtain ⟨t, rfl⟩ := intItems_at hv
  obtain ⟨h1, h2⟩ := argBest_gt (numAt xs) (xs.size - 1)
  refine ⟨.int _, H, I.kept hk, ⟨t, rfl⟩, q _ ?_ fun a ha => ?_⟩
  · rw [hns, numAt_eq]
    exact getD_mem (by rw [List.length_map, Array.length_toList]; omega)
  · rw [hns] at ha
    obtain ⟨j, hj, rfl⟩ := mem_getD ha
    rw [List.length_map, Array.length_toList] at hj
    rw [<- numAt_eq]
    exact h2 j (by omega)
end
section
variable {prog : Program} {w : World} {A : Around} {R : Result -> Shared -> Prop} {I S l : Addr} {d : Value} {xs : Array (Int × Tok)}
end
section
variable {X : Cx}
theorem op_rep_str : OpR X (binaryOp .Mult) (fun x y H Q => ∃ z n, x = .str z /\ y = .int n /\ z.length <= 1000 /\ n <= 1000 /\ -1000 <= n /\ Q (.str (Txt.mul z n)) H) := by
  intro pins s σ H x y v u Q I rx ry h
  obtain ⟨z, n, rfl, rfl, h1, h2, h3, q⟩ := h
  obtain ⟨t, rfl⟩ := rx
  obtain ⟨t', rfl⟩ := ry
  refine SB.mul ⟨?_, fun hn _ => ?_, fun hn _ => ?_⟩ fun t' k => ⟨.str _, H, I.tok k, ⟨t', rfl⟩, q⟩
  · rw [decide_eq_false (by omega), decide_eq_false (by omega)]
    rfl
  · have e : (1000 : Int) <= (2 ^ 63 - 1) / n := Int.le_ediv_of_mul_le (by omega) (by omega)
    omega
  · have hle : z.length * n.toNat <= 1000 * 1000 := Nat.mul_le_mul h1 (by omega)
    unfold PySem.Builtin.Str.tooLong
    simp only [decide_eq_false_iff_not]
    rw [sizeLine_eq]
    omega
theorem op_eqNil (hu : X.A.units + 64 < cLine) : OpR X (compareOp .Eq) (fun x y H Q => ∃ a b xs, x = .ref a /\ y = .ref b /\ SqL X.K H a xs /\ SqL X.K H b [] /\ Q (.bl (decide (xs = []))) H) := by
  intro pins s σ H x y v u Q I rx ry h
  obtain ⟨a, b, xs, e1, e2, ha, hb, q⟩ := h
  by_cases hx : xs = []
  · subst hx
    refine op_eqD hu pins s σ H x y v u Q I rx ry ⟨a, b, [], [], [], [], e1, e2, .inr ⟨ha, hb⟩, isds_nil, isds_nil, by unfold depDs; omega, ?_⟩
    have e : id (eqDs [] []) = decide (([] : List V) = []) := by unfold eqDs; rfl
    rw [e]
    exact q
  · subst e1 e2
    cases rx
    cases ry
    obtain ⟨us, r1, p1, _⟩ := I.list ha
    obtain ⟨ws, r2, p2, _⟩ := I.list hb
    cases r2
    have hne : us ≠ [] := fun z => hx ((Vals.nil_iff r1).mp z)
    refine SeqAt.eq_list_lengthsAt p1.isList p2.isList (by simpa using hne) (by omega) ⟨.bl _, H, I, ?_, q⟩
    rw [decide_eq_false hx]
    rfl
end
end L2
namespace L2
open PySem PySem.Spec PyProof.Rows
section
variable {X : Cx} {K : PySem.W.Frag}
theorem ix_listC (h : X.K = K) : IxR X (rIxL K) := h ▸ ix_list
end
theorem take_snoc {α : Type} {xs : List α} {i : Nat} {x : α} (h : xs[i]? = some x) : xs.take (i + 1) = xs.take i ++ [x] := by
  rw [List.take_add_one, h]
  rfl
theorem lt_of_some {α : Type} {xs : List α} {i : Nat} {x : α} (h : xs[i]? = some x) : i < xs.length := (List.getElem?_eq_some_iff.mp h).1
theorem some_of_lt {α : Type} {xs : List α} {i : Nat} (h : i < xs.length) : ∃ x, xs[i]? = some x := ⟨_, List.getElem?_eq_getElem h⟩
section
variable {K : PySem.W.Frag} {a : Addr} {xs ys : List V} {js : List Nat} {tc : TT} {te : TE} {σ : St} {Q : VK} {D : Addr} {H1 : Hp}
theorem comp_lstM (hz : xs.length < sizeLine) (hlen : ys.length = xs.length) (ha : SqL K H1 a xs) (hD : H1 D = none)
    (he : ∀ (i : Nat) (x y : V) (H : Hp), xs[i]? = some x -> ys[i]? = some y -> Same H1 H -> ∀ Q' : VK, (∀ H', Same H H' -> Q' y H') -> te (some x :: compS js σ) H Q')
    (hq : ∀ H', Same H1 H' -> H' D = some (.lst ys) -> Q (.ref D) H') : CompW (Itl K a) js tYes te σ Q D H1 := by
  refine comp_lst (K := K) (a := a) (xs := xs) (fun i acc H => i <= xs.length /\ acc = ys.take i /\ Same H1 H /\ H D = some (.lst acc)) hz ⟨Nat.zero_le _, rfl, same_new hD _, upd_same⟩ (fun i acc H ⟨l, e, s, d⟩ => ⟨d, ?_, Same.seq s ha⟩) ?_ ?_
  · rw [e, List.length_take]
    omega
  · rintro i m x acc H hi ⟨l, e, s, d⟩ hm
    have hlt := lt_of_some hi
    obtain ⟨y, hy⟩ := some_of_lt (xs := ys) (i := i) (by omega)
    exact he i x y H hi hy s _ fun H' s' => cstep hlt hm (s' _ _ d) ⟨hlt, by rw [e, take_snoc hy], same_upd hD (s.trans s'), upd_same⟩
  · rintro acc H ⟨l, e, s, d⟩
    rw [List.take_of_length_le (by omega)] at e
    exact hq H s (by rw [d, e])
end
theorem cut_take {xs : List V} {k : Nat} (h : k <= xs.length) : cutV xs none (some (k : Int)) = xs.take k := by
  unfold cutV
  rw [HT.sIx_none, HT.sIx_nat, Nat.min_eq_left h]
  simp
theorem cut_drop {xs : List V} {k : Nat} (h : k <= xs.length) : cutV xs (some (k : Int)) none = xs.drop k := by
  unfold cutV
  rw [HT.sIx_none, HT.sIx_nat, Nat.min_eq_left h]
  rw [List.take_of_length_le (by rw [List.length_drop]; omega)]
theorem cut_take' (xs : List V) (k : Nat) : cutV xs none (some (k : Int)) = xs.take k := by
  by_cases h : k <= xs.length
  · exact cut_take h
  · unfold cutV
    rw [HT.sIx_none, HT.sIx_nat, Nat.min_eq_right (by omega), List.drop_zero, Nat.sub_zero, List.take_of_length_le (Nat.le_refl _), List.take_of_length_le (by omega)]
theorem cut_drop' (xs : List V) (k : Nat) : cutV xs (some (k : Int)) none = xs.drop k := by
  by_cases h : k <= xs.length
  · exact cut_drop h
  · unfold cutV
    rw [HT.sIx_none, HT.sIx_nat, Nat.min_eq_right (by omega), List.drop_of_length_le (Nat.le_refl _), List.drop_of_length_le (by omega)]
    exact List.take_nil
theorem atI_head {α : Type} (x : α) (r : List α) : atI (x :: r) 0 = some x := atI_nat (j := 0) rfl
theorem atI_in {α : Type} {xs : List α} {i : Int} (h0 : 0 <= i) (h1 : i < xs.length) : ∃ x, atI xs i = some x /\ x ∈ xs := by
  obtain ⟨k, rfl⟩ := Int.eq_ofNat_of_zero_le h0
  have hk : k < xs.length := by omega
  exact ⟨xs[k], atI_nat (List.getElem?_eq_getElem hk), List.getElem_mem hk⟩
end L2
namespace L2
open PySem PySem.Spec PyProof.Rows
structure QE (X : Cx) (e : Expr) (t : TE) : Prop where
  h : PE X e t
structure QA (X : Cx) (es : List Expr) (t : TA) : Prop where
  h : PA X es t
structure QS (X : Cx) (st : Stmt) (t : TS) : Prop where
  h : PS X st t
structure QSs (X : Cx) (b : List Stmt) (t : TS) : Prop where
  h : PSs X b t
structure QT (X : Cx) (e : Expr) (t : TT) : Prop where
  h : PT X e t
structure QW (X : Cx) (e : Expr) (t : TT) : Prop where
  h : PW X e t
structure QI (X : Cx) (tg iter : Expr) (t : TI) : Prop where
  h : PI X tg iter t
structure QG (X : Cx) (tg : Expr) (t : TG) : Prop where
  h : PG X tg t
structure QGs (X : Cx) (ts : List Expr) (t : TGs) : Prop where
  h : PGs X ts t
structure QO (X : Cx) (e : Option Expr) (t : TO) : Prop where
  h : PO X e t
structure QIf (X : Cx) (ifs : List Expr) (t : TT) : Prop where
  h : PIf X ifs t
theorem qss_cons {X : L2.Cx} {st : PySem.Stmt} {rest : List PySem.Stmt} {t : L2.TS} {u : L2.TS} (h1 : QS X st t) (h2 : QSs X rest u) : QSs X (st :: rest) (L2.tSeq t u) := ⟨@L2.pss_cons _ _ _ _ _ h1.h h2.h⟩
theorem qss_one {X : L2.Cx} {st : PySem.Stmt} {t : L2.TS} (h1 : QS X st t) : QSs X [st] t := ⟨@L2.pss_one _ _ _ h1.h⟩
theorem qs_set {X : L2.Cx} {pos : PySem.Pos} {i : Nat} {x : PySem.Str} {e : PySem.Expr} {te : L2.TE} {pos' : PySem.Pos} (hN : List.Nodup (L2.Cx.N X)) (hi : (L2.Cx.N X)[i]? = Option.some x) (hx : L2.Loc (PySem.Env.scope (L2.Cx.env X)) x) (he : QE X e te) (hs : PySem.swapsWith e (Option.some (PySem.Expr.Name x pos')) (PySem.Pos.line pos) (L2.Cx.env X) = Pure.pure Bool.false := by rfl) (hf : L2.Cx.fn X x = Bool.true \/ List.lookup x (PySem.Scope.names (PySem.Env.scope (L2.Cx.env X))) = Option.some PySem.NameKind.local := by first | exact .inl rfl | exact .inr rfl | assumption) : QS X (PySem.Stmt.Assign [PySem.Expr.Name x pos'] e pos) (L2.tAsg te (L2.gName i)) := ⟨@L2.ps_set _ _ _ _ _ _ _ hN hi hx he.h hs hf⟩
theorem qs_expr {X : L2.Cx} {e : PySem.Expr} {te : L2.TE} {pos : PySem.Pos} (he : QE X e te) (hs : PySem.swapsWith e Option.none (PySem.Pos.line pos) (L2.Cx.env X) = Pure.pure Bool.false := by rfl) : QS X (PySem.Stmt.Expr e pos) (L2.tDrop te) := ⟨@L2.ps_expr _ _ _ _ he.h hs⟩
theorem qs_ret {X : L2.Cx} {e : PySem.Expr} {te : L2.TE} {pos : PySem.Pos} (he : QE X e te) : QS X (PySem.Stmt.Return (Option.some e) pos) (L2.tRet te) := ⟨@L2.ps_ret _ _ _ _ he.h⟩
theorem qs_if {X : L2.Cx} {t : L2.TS} {u : L2.TS} {pos : PySem.Pos} {c : PySem.Expr} {a : List PySem.Stmt} {b : List PySem.Stmt} {tc : L2.TT} (hc : QT X c tc) (ha : QSs X a t) (hb : QSs X b u) : QS X (PySem.Stmt.If c a b pos) (L2.tIfS tc t u) := ⟨@L2.ps_if _ _ _ _ _ _ _ _ hc.h ha.h hb.h⟩
theorem qs_for {X : L2.Cx} {tg : PySem.Expr} {iter : PySem.Expr} {body : List PySem.Stmt} {wi : L2.TI} {g : L2.TG} {tb : L2.TS} {pos : PySem.Pos} (hp : PySem.PassesOwn (PySem.model (L2.Cx.prog X) (L2.Cx.w X)) (L2.Cx.A X) (L2.Cx.env X) (L2.Cx.xe X)) (hc : L2.Cx.calm X = Bool.true) (hi : QI X tg iter wi) (hg : QG X tg g) (hb : QSs X body tb) (hs : ∀ (x : PySem.Value), PySem.foldedSetIterable iter (L2.Cx.env X) x = Pure.pure x := by intro _; rfl) : QS X (PySem.Stmt.For tg iter body [] pos) (L2.tFor wi g tb) := ⟨@L2.ps_for _ _ _ _ _ _ _ _ hp hc hi.h hg.h hb.h hs⟩
theorem qs_while {X : L2.Cx} {pos : PySem.Pos} {c : PySem.Expr} {body : List PySem.Stmt} {tc : L2.TT} {tb : L2.TS} (hp : PySem.PassesOwn (PySem.model (L2.Cx.prog X) (L2.Cx.w X)) (L2.Cx.A X) (L2.Cx.env X) (L2.Cx.xe X)) (hc : QT X c tc) (hb : QSs X body tb) : QS X (PySem.Stmt.While c body [] pos) (L2.tWhile tc tb) := ⟨@L2.ps_while _ _ _ _ _ _ hp hc.h hb.h⟩
theorem qe_op {X : L2.Cx} {a : PySem.Expr} {b : PySem.Expr} {ta : L2.TE} {tb : L2.TE} {pos : PySem.Pos} {op : PySem.Operator} {r : L2.R2} (ho : L2.OpR X (PySem.binaryOp op) r) (ha : QE X a ta) (hb : QE X b tb) : QE X (PySem.Expr.BinOp a op b pos) (L2.tOp r ta tb) := ⟨@L2.pe_op _ _ _ _ _ _ _ _ ho ha.h hb.h⟩
theorem qe_un {X : L2.Cx} {a : PySem.Expr} {ta : L2.TE} {pos : PySem.Pos} {op : PySem.UnaryOp} {r : L2.V -> L2.Hp -> L2.VK -> Prop} (ho : L2.UnR X (PySem.unaryOp op) r) (ha : QE X a ta) : QE X (PySem.Expr.UnaryOp op a pos) (L2.tUn r ta) := ⟨@L2.pe_un _ _ _ _ _ _ ho ha.h⟩
theorem qe_not {X : L2.Cx} {a : PySem.Expr} {ta : L2.TE} {pos : PySem.Pos} (ha : QE X a ta) : QE X (PySem.Expr.UnaryOp PySem.UnaryOp.Not a pos) (L2.tNotV ta) := ⟨@L2.pe_not _ _ _ _ ha.h⟩
theorem qe_one {X : L2.Cx} {a : PySem.Expr} {pos : PySem.Pos} {op : PySem.BoolOp} {t : L2.TE} (h : QE X a t) : QE X (PySem.Expr.BoolOp op [a] pos) t := ⟨@L2.pe_one _ _ _ _ _ h.h⟩
theorem qe_and {X : L2.Cx} {a : PySem.Expr} {b : PySem.Expr} {ta : L2.TE} {tb : L2.TE} {pos : PySem.Pos} {rest : List PySem.Expr} (ha : QE X a ta) (hb : QE X (PySem.Expr.BoolOp PySem.BoolOp.And (b :: rest) pos) tb) : QE X (PySem.Expr.BoolOp PySem.BoolOp.And (a :: b :: rest) pos) (L2.tAndV ta tb) := ⟨@L2.pe_and _ _ _ _ _ _ _ ha.h hb.h⟩
theorem qe_or {X : L2.Cx} {a : PySem.Expr} {b : PySem.Expr} {ta : L2.TE} {tb : L2.TE} {pos : PySem.Pos} {rest : List PySem.Expr} (ha : QE X a ta) (hb : QE X (PySem.Expr.BoolOp PySem.BoolOp.Or (b :: rest) pos) tb) : QE X (PySem.Expr.BoolOp PySem.BoolOp.Or (a :: b :: rest) pos) (L2.tOrV ta tb) := ⟨@L2.pe_or _ _ _ _ _ _ _ ha.h hb.h⟩
theorem qe_cmpR {X : L2.Cx} {a : PySem.Expr} {b : PySem.Expr} {ta : L2.TE} {tb : L2.TE} {pos : PySem.Pos} {op : PySem.CmpOp} {r : L2.R2} (ho : L2.OpR X (PySem.compareOp op) r) (ha : QE X a ta) (hb : QE X b tb) (hm : PySem.behindInMarks op b = Bool.false) : QE X (PySem.Expr.Compare a [op] [b] pos) (L2.tOp r ta tb) := ⟨@L2.pe_cmpR _ _ _ _ _ _ _ _ ho ha.h hb.h hm⟩
theorem qe_ifExp {X : L2.Cx} {a : PySem.Expr} {b : PySem.Expr} {ta : L2.TE} {tb : L2.TE} {pos : PySem.Pos} {tA : L2.TT} {c : PySem.Expr} (hc : QT X c tA) (ha : QE X a ta) (hb : QE X b tb) : QE X (PySem.Expr.IfExp c a b pos) (L2.tIf tA ta tb) := ⟨@L2.pe_ifExp _ _ _ _ _ _ _ _ hc.h ha.h hb.h⟩
theorem qe_lst {X : L2.Cx} {es : List PySem.Expr} {t : L2.TA} {pos : PySem.Pos} (h : QA X es t) : QE X (PySem.Expr.List es pos) (L2.tLst t) := ⟨@L2.pe_lst _ _ _ _ h.h⟩
theorem qe_tup {X : L2.Cx} {es : List PySem.Expr} {t : L2.TA} {pos : PySem.Pos} {x1 : Nat} (h : QA X es t) : QE X (PySem.Expr.Tuple es x1 pos) (L2.tTup t) := ⟨@L2.pe_tup _ _ _ _ _ h.h⟩
theorem qe_slice {X : L2.Cx} {e : PySem.Expr} {te : L2.TE} {lo : Option PySem.Expr} {hi : Option PySem.Expr} {tl : L2.TO} {th : L2.TO} {pos : PySem.Pos} {p2 : PySem.Pos} {r : L2.V -> Option Int -> Option Int -> L2.Hp -> L2.VK -> Prop} (hr : L2.SlR X r) (he : QE X e te) (hl : QO X lo tl) (hu : QO X hi th) : QE X (PySem.Expr.Subscript e (PySem.Expr.Slice lo hi Option.none p2) pos) (L2.tSl r te tl th) := ⟨@L2.pe_slice _ _ _ _ _ _ _ _ _ _ hr he.h hl.h hu.h⟩
theorem qe_ix {X : L2.Cx} {a : PySem.Expr} {b : PySem.Expr} {ta : L2.TE} {tb : L2.TE} {pos : PySem.Pos} {r : L2.R2} (hr : L2.IxR X r) (ha : QE X a ta) (hb : QE X b tb) (hs : L2.PlainIx b) : QE X (PySem.Expr.Subscript a b pos) (L2.tOp r ta tb) := ⟨@L2.pe_ix _ _ _ _ _ _ _ hr ha.h hb.h hs⟩
theorem qe_comp {X : L2.Cx} {elt : PySem.Expr} {iter : PySem.Expr} {ifs : List PySem.Expr} {sc : PySem.Scope} {pos : PySem.Pos} {px : PySem.Pos} {t : PySem.Str} {ys : List PySem.Str} {js : List Nat} {wi : L2.TI} {tc : L2.TT} {te : L2.TE} (hc : L2.Cx.calm X = Bool.true) (hck : L2.compChk (L2.Cx.N X) (PySem.Env.scope (L2.Cx.env X)) sc t ys js = Bool.true) (hi : QI X (PySem.Expr.Name t px) iter wi) (hf : ∀ (cl : List (PySem.Str × PySem.Addr)) (C : PySem.Addr) (s : PySem.Shared) (H : L2.Hp) (fp : List PySem.Addr), QIf (L2.Cx.comp X sc cl C (t :: ys) s H fp) ifs tc) (he : ∀ (cl : List (PySem.Str × PySem.Addr)) (C : PySem.Addr) (s : PySem.Shared) (H : L2.Hp) (fp : List PySem.Addr), QE (L2.Cx.comp X sc cl C (t :: ys) s H fp) elt te) (hs : ∀ (x : PySem.Value), PySem.foldedSetIterable iter (L2.Cx.env X) x = Pure.pure x := by intro _; rfl) : QE X (PySem.Expr.ListComp elt [{ target := PySem.Expr.Name t px, iter := iter, ifs := ifs, is_async := 0 }] sc pos) (L2.tComp wi js tc te) := ⟨@L2.pe_comp _ _ _ _ _ _ _ _ _ _ _ _ _ hc hck hi.h (fun cl C s H fp => (hf cl C s H fp).h) (fun cl C s H fp => (he cl C s H fp).h) hs⟩
theorem qe_call {X : L2.Cx} {CX : L2.CXT} {k : Nat} {f : PySem.Addr} {fd : PySem.FuncData} {ps : List PySem.Str} {sp : L2.Sp} {dvs : List L2.V} {ds : List PySem.Value} {E : L2.XK} {x : PySem.Str} {p : PySem.Pos} {pos : PySem.Pos} {e : PySem.Expr} {es : List PySem.Expr} {t : L2.TA} (F : L2.FnOk (L2.Cx.prog X) (L2.Cx.w X) (L2.Cx.K X) (L2.Cx.mg X) (L2.Cx.base X) CX k f fd ps sp) (hr : L2.Room k (L2.Cx.A X)) (hg : L2.Gl X x) (hm : L2.Cx.mg X x = Option.some (PySem.Value.ref f)) (hk : PySem.W.keepIn (L2.Cx.K X) (PySem.Value.ref f) = Bool.true) (hb : L2.Binds (L2.Cx.K X) fd ps ds) (hd : L2.Vals dvs ds) (hx : L2.Passes CX X E) (ha : QA X (e :: es) t) (hdb : (x == PySem.Str.ofString "__debug__") = Bool.false := by decide) (he : PySem.starEach (e :: es) (L2.Cx.env X) = (Bool.false, PySem.eval e (L2.Cx.env X)) :: PySem.starEach es (L2.Cx.env X) := by rfl) (hpl : (List.any (PySem.backTo pos (PySem.starEach es (L2.Cx.env X))) fun (x : Bool × PySem.Sem PySem.Value) => Prod.fst x) = Bool.false := by rfl) : QE X (PySem.Expr.Call (PySem.Expr.Name x p) (e :: es) [] pos) (L2.tCall sp dvs E t) := ⟨@L2.pe_call _ _ _ _ _ _ _ _ _ _ _ _ _ _ _ _ F hr hg hm hk hb hd hx ha.h hdb he hpl⟩
theorem qe_callB {X : L2.Cx} {x : PySem.Str} {p : PySem.Pos} {pos : PySem.Pos} {e : PySem.Expr} {es : List PySem.Expr} {t : L2.TA} {id : String} {r : List L2.V -> L2.Hp -> L2.VK -> Prop} (hc : L2.CallR X (PySem.Value.builtin id) r) (hg : L2.Gl X x) (hm : L2.Cx.mg X x = Option.none) (hv : PySem.bootBuiltins x = Option.some (PySem.Value.builtin id)) (ha : QA X (e :: es) t) (hn : x ≠ PySem.Str.ofString "__name__" := by decide) (hdb : (x == PySem.Str.ofString "__debug__") = Bool.false := by decide) (he : PySem.starEach (e :: es) (L2.Cx.env X) = (Bool.false, PySem.eval e (L2.Cx.env X)) :: PySem.starEach es (L2.Cx.env X) := by rfl) (hpl : (List.any (PySem.backTo pos (PySem.starEach es (L2.Cx.env X))) fun (x : Bool × PySem.Sem PySem.Value) => Prod.fst x) = Bool.false := by rfl) : QE X (PySem.Expr.Call (PySem.Expr.Name x p) (e :: es) [] pos) (L2.tCB r t) := ⟨@L2.pe_callB _ _ _ _ _ _ _ _ _ hc hg hm hv ha.h hn hdb he hpl⟩
theorem qe_callTy {X : L2.Cx} {x : PySem.Str} {p : PySem.Pos} {pos : PySem.Pos} {e : PySem.Expr} {es : List PySem.Expr} {t : L2.TA} {T : String} {r : List L2.V -> L2.Hp -> L2.VK -> Prop} (hc : L2.CallR X (PySem.Value.type T) r) (hg : L2.Gl X x) (hm : L2.Cx.mg X x = Option.none) (hv : PySem.bootBuiltins x = Option.some (PySem.Value.type T)) (ha : QA X (e :: es) t) (hn : x ≠ PySem.Str.ofString "__name__" := by decide) (hdb : (x == PySem.Str.ofString "__debug__") = Bool.false := by decide) (he : PySem.starEach (e :: es) (L2.Cx.env X) = (Bool.false, PySem.eval e (L2.Cx.env X)) :: PySem.starEach es (L2.Cx.env X) := by rfl) (hpl : (List.any (PySem.backTo pos (PySem.starEach es (L2.Cx.env X))) fun (x : Bool × PySem.Sem PySem.Value) => Prod.fst x) = Bool.false := by rfl) : QE X (PySem.Expr.Call (PySem.Expr.Name x p) (e :: es) [] pos) (L2.tCB r t) := ⟨@L2.pe_callTy _ _ _ _ _ _ _ _ _ hc hg hm hv ha.h hn hdb he hpl⟩
theorem qe_bm {X : L2.Cx} {o : PySem.Expr} {e : PySem.Expr} {es : List PySem.Expr} {to : L2.TE} {t : L2.TA} {name : PySem.Str} {apos : PySem.Pos} {cpos : PySem.Pos} {T : String} {id : String} {r : L2.V -> List L2.V -> L2.Hp -> L2.VK -> Prop} (pa : PySem.PlainAttrs T) (slot : PySem.Slot T name id) (hty : PySem.typeOf (PySem.Value.builtin id) = Pure.pure (PySem.Value.type "method_descriptor")) (hm : L2.MtR X id r) (ho : QE X o to) (ha : QA X (e :: es) t) (hbase : PySem.attributeBase o name (L2.Cx.env X) (PySem.eval o (L2.Cx.env X)) = PySem.eval o (L2.Cx.env X) := by rfl) (hfew : (((List.all (PySem.backTo cpos (PySem.starEach (e :: es) (L2.Cx.env X))) fun (x : Bool × PySem.Sem PySem.Value) => !Prod.fst x) && List.all (PySem.backToKw cpos (PySem.keywordEach [] (L2.Cx.env X))) fun (x : Option PySem.Str × PySem.Sem PySem.Value) => Option.isSome (Prod.fst x)) && Decidable.decide ((List.length (e :: es) + List.length ([] : List PySem.Keyword) + if List.isEmpty ([] : List PySem.Keyword) = Bool.true then 0 else 1) < 30)) = Bool.true := by rfl) (hline : (PySem.Pos.endLine apos == PySem.Pos.line cpos) = Bool.true := by rfl) (hs : PySem.starEach (e :: es) (L2.Cx.env X) = (Bool.false, PySem.eval e (L2.Cx.env X)) :: PySem.starEach es (L2.Cx.env X) := by rfl) (hplain : (List.any (PySem.backTo cpos (PySem.starEach es (L2.Cx.env X))) fun (x : Bool × PySem.Sem PySem.Value) => Prod.fst x) = Bool.false := by rfl) : QE X (PySem.Expr.Call (PySem.Expr.Attribute o name apos) (e :: es) [] cpos) (L2.tBM (L2.Cx.K X) T r to t) := ⟨@L2.pe_bm _ _ _ _ _ _ _ _ _ _ _ _ pa slot hty hm ho.h ha.h hbase hfew hline hs hplain⟩
theorem qe_bm0 {X : L2.Cx} {o : PySem.Expr} {to : L2.TE} {name : PySem.Str} {apos : PySem.Pos} {cpos : PySem.Pos} {T : String} {id : String} {r : L2.V -> List L2.V -> L2.Hp -> L2.VK -> Prop} (pa : PySem.PlainAttrs T) (slot : PySem.Slot T name id) (hty : PySem.typeOf (PySem.Value.builtin id) = Pure.pure (PySem.Value.type "method_descriptor")) (hm : L2.MtR X id r) (ho : QE X o to) (hbase : PySem.attributeBase o name (L2.Cx.env X) (PySem.eval o (L2.Cx.env X)) = PySem.eval o (L2.Cx.env X) := by rfl) (hline : (PySem.Pos.endLine apos == PySem.Pos.line cpos) = Bool.true := by rfl) : QE X (PySem.Expr.Call (PySem.Expr.Attribute o name apos) [] [] cpos) (L2.tBM0 (L2.Cx.K X) T r to) := ⟨@L2.pe_bm0 _ _ _ _ _ _ _ _ _ pa slot hty hm ho.h hbase hline⟩
theorem qt_not {X : L2.Cx} {a : PySem.Expr} {pos : PySem.Pos} {tA : L2.TT} (ha : QT X a tA) : QT X (PySem.Expr.UnaryOp PySem.UnaryOp.Not a pos) (L2.tNot tA) := ⟨@L2.pt_not _ _ _ _ ha.h⟩
theorem qt_val {X : L2.Cx} {e : PySem.Expr} {t : L2.TE} (h : QE X e t) (he : ∀ (whole : PySem.Sem PySem.Value), PySem.isTrue e (L2.Cx.env X) whole = (do let v <- whole; PySem.standAt (PySem.Expr.pos e); PySem.holding [v] (PySem.truthy v)) := by intro _; rfl) : QT X e (L2.tB t) := ⟨@L2.pt_val _ _ _ h.h he⟩
theorem qt_cmpR {X : L2.Cx} {a : PySem.Expr} {b : PySem.Expr} {ta : L2.TE} {tb : L2.TE} {pos : PySem.Pos} {op : PySem.CmpOp} {r : L2.R2} (ho : L2.OpR X (PySem.compareOp op) r) (ha : QE X a ta) (hb : QE X b tb) (hm : PySem.behindInMarks op b = Bool.false) : QT X (PySem.Expr.Compare a [op] [b] pos) (L2.tTest (L2.tOp r ta tb)) := ⟨@L2.pt_cmpR _ _ _ _ _ _ _ _ ho ha.h hb.h hm⟩
theorem qt_chain {X : L2.Cx} {a : PySem.Expr} {b : PySem.Expr} {c : PySem.Expr} {ta : L2.TE} {tb : L2.TE} {tc : L2.TE} {pos : PySem.Pos} {op : PySem.CmpOp} {op' : PySem.CmpOp} {r : L2.R2} {r' : L2.R2} (ho : L2.OpR X (PySem.compareOp op) r) (ho' : L2.OpR X (PySem.compareOp op') r') (ha : QE X a ta) (hb : QE X b tb) (hc : QE X c tc) (hm : PySem.lastMarks [op, op'] [b, c] = Bool.false := by with_unfolding_all rfl) : QT X (PySem.Expr.Compare a [op, op'] [b, c] pos) (L2.tTest (L2.tChain r r' ta tb tc)) := ⟨@L2.pt_chain _ _ _ _ _ _ _ _ _ _ _ _ ho ho' ha.h hb.h hc.h hm⟩
theorem qw_and {X : L2.Cx} {a : PySem.Expr} {b : PySem.Expr} {pos : PySem.Pos} {tA : L2.TT} {tB' : L2.TT} {rest : List PySem.Expr} (ha : QT X a tA) (hb : QW X (PySem.Expr.BoolOp PySem.BoolOp.And (b :: rest) pos) tB') : QW X (PySem.Expr.BoolOp PySem.BoolOp.And (a :: b :: rest) pos) (L2.tAnd tA tB') := ⟨@L2.pw_and _ _ _ _ _ _ _ ha.h hb.h⟩
theorem qw_or {X : L2.Cx} {a : PySem.Expr} {b : PySem.Expr} {pos : PySem.Pos} {tA : L2.TT} {tB' : L2.TT} {rest : List PySem.Expr} (ha : QT X a tA) (hb : QW X (PySem.Expr.BoolOp PySem.BoolOp.Or (b :: rest) pos) tB') : QW X (PySem.Expr.BoolOp PySem.BoolOp.Or (a :: b :: rest) pos) (L2.tOr tA tB') := ⟨@L2.pw_or _ _ _ _ _ _ _ ha.h hb.h⟩
theorem qw_and1 {X : L2.Cx} {a : PySem.Expr} {pos : PySem.Pos} {tA : L2.TT} (ha : QT X a tA) : QW X (PySem.Expr.BoolOp PySem.BoolOp.And [a] pos) tA := ⟨@L2.pw_and1 _ _ _ _ ha.h⟩
theorem qw_or1 {X : L2.Cx} {a : PySem.Expr} {pos : PySem.Pos} {tA : L2.TT} (ha : QT X a tA) : QW X (PySem.Expr.BoolOp PySem.BoolOp.Or [a] pos) tA := ⟨@L2.pw_or1 _ _ _ _ ha.h⟩
theorem qw_pt {X : L2.Cx} {e : PySem.Expr} {t : L2.TT} (h : QW X e t) : QT X e t := ⟨@L2.PW.pt _ _ _ h.h⟩
theorem qo_some {X : L2.Cx} {e : PySem.Expr} {te : L2.TE} (h : QE X e te) : QO X (Option.some e) (L2.tPart te) := ⟨@L2.po_some _ _ _ h.h⟩
theorem qi_list {X : L2.Cx} {tg : PySem.Expr} {l : PySem.Expr} {tl : L2.TE} (hl : QE X l tl) : QI X tg l (L2.iList (L2.Cx.K X) tl) := ⟨@L2.pi_list _ _ _ _ hl.h⟩
theorem qi_range1 {X : L2.Cx} {tg : PySem.Expr} {a : PySem.Expr} {ta : L2.TA} {p : PySem.Pos} {pos : PySem.Pos} (hg : L2.Gl X (PySem.Str.ofString "range")) (hm : L2.Cx.mg X (PySem.Str.ofString "range") = Option.none) (ha : QA X [a] ta) (hs : PySem.starEach [a] (L2.Cx.env X) = [(Bool.false, PySem.eval a (L2.Cx.env X))] := by rfl) : QI X tg (PySem.Expr.Call (PySem.Expr.Name (PySem.Str.ofString "range") p) [a] [] pos) (L2.iRng1 ta) := ⟨@L2.pi_range1 _ _ _ _ _ _ hg hm ha.h hs⟩
theorem qg_name {X : L2.Cx} {pos : PySem.Pos} {i : Nat} {x : PySem.Str} (hN : List.Nodup (L2.Cx.N X)) (hi : (L2.Cx.N X)[i]? = Option.some x) (hx : L2.Loc (PySem.Env.scope (L2.Cx.env X)) x) (hf : L2.Cx.fn X x = Bool.true \/ List.lookup x (PySem.Scope.names (PySem.Env.scope (L2.Cx.env X))) = Option.some PySem.NameKind.local := by first | exact .inl rfl | exact .inr rfl | assumption) : QG X (PySem.Expr.Name x pos) (L2.gName i) := ⟨@L2.pg_name _ _ _ _ hN hi hx hf⟩
theorem qg_tup {X : L2.Cx} {pos : PySem.Pos} {es : List PySem.Expr} {k : Nat} {t : L2.TGs} {n : Nat} (hc : L2.Cx.calm X = Bool.true) (h : QGs X es t) (hn : List.length (PySem.assignEach es (L2.Cx.env X)) = n := by rfl) (hst : List.findIdx? (fun (x : Bool × (PySem.Value -> PySem.Sem Unit)) => Prod.fst x) (PySem.assignEach es (L2.Cx.env X)) = Option.none := by rfl) : QG X (PySem.Expr.Tuple es k pos) (L2.gTup (L2.Cx.K X) n t) := ⟨@L2.pg_tup _ _ _ _ _ _ hc h.h hn hst⟩
theorem qgs_cons {X : L2.Cx} {e : PySem.Expr} {es : List PySem.Expr} {t : L2.TG} {u : L2.TGs} (h1 : QG X e t) (h2 : QGs X es u) (hs : List.map (fun (x : Bool × (PySem.Value -> PySem.Sem Unit)) => Prod.snd x) (PySem.assignEach (e :: es) (L2.Cx.env X)) = PySem.assign e (L2.Cx.env X) :: List.map (fun (x : Bool × (PySem.Value -> PySem.Sem Unit)) => Prod.snd x) (PySem.assignEach es (L2.Cx.env X)) := by rfl) : QGs X (e :: es) (L2.gCons t u) := ⟨@L2.pgs_cons _ _ _ _ _ h1.h h2.h hs⟩
theorem qaT {X : L2.Cx} {es : List PySem.Expr} {te : L2.TE} {t : L2.TA} {a : List PySem.Expr} {k : Nat} {p : PySem.Pos} (ha : QE X (PySem.Expr.Tuple a k p) te) (hr : QA X es t) : QA X (PySem.Expr.Tuple a k p :: es) (L2.tCons te t) := ⟨@L2.paT _ _ _ _ _ _ _ ha.h hr.h⟩
theorem qaL {X : L2.Cx} {es : List PySem.Expr} {te : L2.TE} {t : L2.TA} {a : List PySem.Expr} {p : PySem.Pos} (ha : QE X (PySem.Expr.List a p) te) (hr : QA X es t) : QA X (PySem.Expr.List a p :: es) (L2.tCons te t) := ⟨@L2.paL _ _ _ _ _ _ ha.h hr.h⟩
theorem qaC {X : L2.Cx} {es : List PySem.Expr} {te : L2.TE} {t : L2.TA} {c : PySem.Const} {k : Nat} {p : PySem.Pos} (ha : QE X (PySem.Expr.Constant c k p) te) (hr : QA X es t) : QA X (PySem.Expr.Constant c k p :: es) (L2.tCons te t) := ⟨@L2.paC _ _ _ _ _ _ _ ha.h hr.h⟩
theorem qaN {X : L2.Cx} {es : List PySem.Expr} {te : L2.TE} {t : L2.TA} {x : PySem.Str} {p : PySem.Pos} (ha : QE X (PySem.Expr.Name x p) te) (hr : QA X es t) : QA X (PySem.Expr.Name x p :: es) (L2.tCons te t) := ⟨@L2.paN _ _ _ _ _ _ ha.h hr.h⟩
theorem qaB {X : L2.Cx} {es : List PySem.Expr} {te : L2.TE} {t : L2.TA} {l : PySem.Expr} {r : PySem.Expr} {o : PySem.Operator} {p : PySem.Pos} (ha : QE X (PySem.Expr.BinOp l o r p) te) (hr : QA X es t) : QA X (PySem.Expr.BinOp l o r p :: es) (L2.tCons te t) := ⟨@L2.paB _ _ _ _ _ _ _ _ ha.h hr.h⟩
theorem qaS {X : L2.Cx} {es : List PySem.Expr} {te : L2.TE} {t : L2.TA} {v : PySem.Expr} {i : PySem.Expr} {p : PySem.Pos} (ha : QE X (PySem.Expr.Subscript v i p) te) (hr : QA X es t) : QA X (PySem.Expr.Subscript v i p :: es) (L2.tCons te t) := ⟨@L2.paS _ _ _ _ _ _ _ ha.h hr.h⟩
theorem qaK {X : L2.Cx} {es : List PySem.Expr} {te : L2.TE} {t : L2.TA} {f : PySem.Expr} {a : List PySem.Expr} {k : List PySem.Keyword} {p : PySem.Pos} (ha : QE X (PySem.Expr.Call f a k p) te) (hr : QA X es t) : QA X (PySem.Expr.Call f a k p :: es) (L2.tCons te t) := ⟨@L2.paK _ _ _ _ _ _ _ _ ha.h hr.h⟩
theorem qaI {X : L2.Cx} {es : List PySem.Expr} {te : L2.TE} {t : L2.TA} {c : PySem.Expr} {a : PySem.Expr} {b : PySem.Expr} {p : PySem.Pos} (ha : QE X (PySem.Expr.IfExp c a b p) te) (hr : QA X es t) : QA X (PySem.Expr.IfExp c a b p :: es) (L2.tCons te t) := ⟨@L2.paI _ _ _ _ _ _ _ _ ha.h hr.h⟩
theorem qaO {X : L2.Cx} {es : List PySem.Expr} {te : L2.TE} {t : L2.TA} {o : PySem.BoolOp} {v : List PySem.Expr} {p : PySem.Pos} (ha : QE X (PySem.Expr.BoolOp o v p) te) (hr : QA X es t) : QA X (PySem.Expr.BoolOp o v p :: es) (L2.tCons te t) := ⟨@L2.paO _ _ _ _ _ _ _ ha.h hr.h⟩
theorem qaE {X : L2.Cx} {es : List PySem.Expr} {te : L2.TE} {t : L2.TA} {e : PySem.Expr} {g : List PySem.Comprehension} {s : PySem.Scope} {p : PySem.Pos} (ha : QE X (PySem.Expr.ListComp e g s p) te) (hr : QA X es t) : QA X (PySem.Expr.ListComp e g s p :: es) (L2.tCons te t) := ⟨@L2.paE _ _ _ _ _ _ _ _ ha.h hr.h⟩
theorem qaJ {X : L2.Cx} {es : List PySem.Expr} {te : L2.TE} {t : L2.TA} {v : List PySem.Expr} {p : PySem.Pos} (ha : QE X (PySem.Expr.JoinedStr v p) te) (hr : QA X es t) : QA X (PySem.Expr.JoinedStr v p :: es) (L2.tCons te t) := ⟨@L2.paJ _ _ _ _ _ _ ha.h hr.h⟩
theorem qaA {X : L2.Cx} {es : List PySem.Expr} {te : L2.TE} {t : L2.TA} {v : PySem.Expr} {n : PySem.Str} {p : PySem.Pos} (ha : QE X (PySem.Expr.Attribute v n p) te) (hr : QA X es t) : QA X (PySem.Expr.Attribute v n p :: es) (L2.tCons te t) := ⟨@L2.paA _ _ _ _ _ _ _ ha.h hr.h⟩
theorem qv {X : L2.Cx} (i : Nat) {x : PySem.Str} {pos : PySem.Pos} (hN : (L2.Cx.N X)[i]? = Option.some x := by rfl) (hv : L2.Vis (PySem.Env.scope (L2.Cx.env X)) x := by first | exact Or.inl rfl | exact Or.inr (Or.inl rfl) | exact Or.inr (Or.inr rfl)) (hd : (x == PySem.Str.ofString "__debug__") = Bool.false := by decide) (hcd : (x == PySem.Str.ofString "__classdict__") = Bool.false := by decide) : QE X (PySem.Expr.Name x pos) (L2.tVar i) := ⟨@L2.pv _ i _ _ hN hv hd hcd⟩
theorem qe_int {X : L2.Cx} {i : Int} {j : Nat} {pos : PySem.Pos} : QE X (PySem.Expr.Constant (PySem.Const.int i) j pos) (L2.tC (L2.V.int i)) := ⟨@L2.pe_int _ _ _ _⟩
theorem qe_str {X : L2.Cx} {x : PySem.Str} {j : Nat} {pos : PySem.Pos} : QE X (PySem.Expr.Constant (PySem.Const.str x) j pos) (L2.tC (L2.V.str x)) := ⟨@L2.pe_str _ _ _ _⟩
theorem qe_bl {X : L2.Cx} {b : Bool} {j : Nat} {pos : PySem.Pos} : QE X (PySem.Expr.Constant (PySem.Const.bool b) j pos) (L2.tC (L2.V.bl b)) := ⟨@L2.pe_bl _ _ _ _⟩
theorem qe_non {X : L2.Cx} {j : Nat} {pos : PySem.Pos} : QE X (PySem.Expr.Constant PySem.Const.none j pos) (L2.tC L2.V.non) := ⟨@L2.pe_non _ _ _⟩
theorem qe_glob {X : L2.Cx} {x : PySem.Str} {v : L2.V} {u : PySem.Value} {pos : PySem.Pos} (hg : L2.Gl X x) (hm : L2.Cx.mg X x = Option.some u) (r : L2.RelV v u) (hd : (x == PySem.Str.ofString "__debug__") = Bool.false := by decide) : QE X (PySem.Expr.Name x pos) (L2.tC v) := ⟨@L2.pe_glob _ _ _ _ _ hg hm r hd⟩
theorem qe_bltn {X : L2.Cx} {x : PySem.Str} {v : L2.V} {u : PySem.Value} {pos : PySem.Pos} (hg : L2.Gl X x) (hm : L2.Cx.mg X x = Option.none) (hv : PySem.bootBuiltins x = Option.some u) (r : L2.RelV v u) (hn : x ≠ PySem.Str.ofString "__name__" := by decide) (hd : (x == PySem.Str.ofString "__debug__") = Bool.false := by decide) : QE X (PySem.Expr.Name x pos) (L2.tC v) := ⟨@L2.pe_bltn _ _ _ _ _ hg hm hv r hn hd⟩
theorem qss_nil {X : L2.Cx} : QSs X [] L2.tNext := ⟨@L2.pss_nil _⟩
theorem qss_never {X : L2.Cx} {sts : List PySem.Stmt} : QSs X sts L2.tNever := ⟨@L2.pss_never _ _⟩
theorem qs_never {X : L2.Cx} {st : PySem.Stmt} : QS X st L2.tNever := ⟨@L2.ps_never _ _⟩
theorem qa_nil {X : L2.Cx} : QA X [] L2.tNil := ⟨@L2.pa_nil _⟩
theorem qo_none {X : L2.Cx} : QO X Option.none L2.tNoPart := ⟨@L2.po_none _⟩
theorem qif_nil {X : L2.Cx} : QIf X [] L2.tYes := ⟨@L2.pif_nil _⟩
theorem qgs_nil {X : L2.Cx} : QGs X [] L2.gNil := ⟨@L2.pgs_nil _⟩
theorem qt_truth {X : L2.Cx} {a : PySem.Expr} {ta : L2.TE} (ha : QE X a ta) (he : ∀ (whole : PySem.Sem PySem.Value), PySem.isTrue a (L2.Cx.env X) whole = (do let v <- whole; PySem.standAt (PySem.Expr.pos a); PySem.holding [v] (PySem.truthy v))) : QT X a fun (σ : L2.St) (H : L2.Hp) (Q : Bool -> L2.Hp -> Prop) => ta σ H fun (x : L2.V) (H' : L2.Hp) => ∃ (k : Bool), L2.TruV (L2.Cx.K X) x H' k /\ Q k H' := ⟨@L2.pt_truth _ _ _ ha.h he⟩
section
variable {P : Program} {w : World} {K : PySem.W.Frag} {mg : Str -> Option Value} {base : Heap}
theorem Fun.okQ {x qual : Str} {st : Stmt} {f : Addr} {fd : FuncData} {N ps : List Str} {k : Nat} {sp : Sp} (F : Fun K x qual st f fd) (S : FnScope N ps (defScope st)) (len : ∀ vs H Q E, sp vs H Q E -> vs.length = ps.length)
    (hbody : ∀ (cdv : Value) (A : Around) (outer : List Env) (s : Shared) (H : Hp) (vs : List V) (Q : VK) (E : XK), Room k (A.deeper (envOfC qual (defScope st) s.heap.objs.size f cdv)) -> sp vs H Q E ->
      ∃ t, QSs (cxOf CX0 P w K mg base N qual (defScope st) f cdv A outer s H E).nox (defBody st) t /\ t { nx := fun _ H' => Q .non H', rt := Q } (start N vs) H) : FnOk P w K mg base CX0 (k + 1) f fd ps sp :=
  F.ok S len fun cdv A outer s H vs Q E hr h => let ⟨t, h1, h2⟩ := hbody cdv A outer s H vs Q E hr h; ⟨t, h1.h, h2⟩
end
end L2
namespace L2
open PySem PySem.Spec PyProof.Rows
abbrev vbm : List Value := [.type "ValueError", .type "Exception", .type "BaseException", .type "object"]
abbrev ExcC (K : PySem.W.Frag) (C : Addr) : Prop := PySem.W.excIn K C vbm "ValueError.__new__" = true
theorem exc_obj {K : PySem.W.Frag} {h : Heap} {C : Addr} {bmB : List Value} {newId : String} (X : K.In h) (q : PySem.W.excIn K C bmB newId = true) :
    ∃ bm N nm qn bs hdct sn sub ab col dd k0 k1 k2 k3 k5 mN, h.get? C = some (excClassObj nm qn C N bs bm hdct sn sub ab col dd k0 k1 k2 k3 k5 newId) /\ h.Ns N mN /\ mN "__init__" = none /\ OwnTail h bmB bm /\
      ∀ v b, PySem.W.mroIn K C v = some b -> (Value.ref C :: bm).contains v = b := by
  unfold PySem.W.excIn at q
  split at q
  · rename_i dd cd sl ho
    split at q
    · rename_i C' bm k0 k1 k2 k3 n k5 hm hs
      simp only [Bool.and_eq_true, beq_iff_eq, Bool.not_eq_true'] at q
      obtain ⟨⟨⟨⟨⟨rfl, rfl⟩, hdel⟩, ht⟩, hok⟩, hni⟩ := q
      obtain ⟨nm, bs, mro, ns, qn, hd, sn, sub, ab, col, del⟩ := cd
      dsimp only at hm hdel hok hni
      subst hm hdel
      have hsl : sl = #[k0, k1, k2, k3, some (.builtin n), k5] := by
        obtain ⟨l⟩ := sl
        simp only at hs
        rw [hs]
      subst hsl
      refine ⟨bm, ns, nm, qn, bs, hd, sn, sub, ab, col, dd, k0, k1, k2, k3, k5, _, X _ _ ho, .of_isNs (PySem.W.isNs_of_in X hok), PySem.W.nsMap_none_of_in X hok hni, PySem.W.tail_of_in X ht, fun v b e => ?_⟩
      unfold PySem.W.mroIn PySem.W.clsIn at e
      rw [ho] at e
      simpa using e
    · cases q
  · cases q
theorem excMatches_own {M : Model} {A : Around} {E : Value -> Shared -> Prop} {K : PySem.W.Frag} {h : Heap} {g : Array GenState} {d : Drawn} {t : Nat} {os : OsState} {e C D : Addr} {oe : Obj} {b : Bool} {Q : Bool -> Shared -> Prop} (X : K.In h)
    (hC : ExcC K C) (hD : ExcC K D) (he : h.get? e = some oe) (hcls : oe.cls = .ref C) (hm : PySem.W.mroIn K C (.ref D) = some b) (hq : Q b ⟨h, g, d, t, os⟩) : wpAny M A (excMatches (.ref e) (.ref D)) Q E ⟨h, g, d, t, os⟩ := by
  obtain ⟨bm, N, nm, qn, bs, hdct, sn, sub, ab, col, dd, k0, k1, k2, k3, k5, mN, oC, _, _, _, mroC⟩ := exc_obj X hC
  obtain ⟨bm', N', nm', qn', bs', hdct', sn', sub', ab', col', dd', l0, l1, l2, l3, l5, mN', oD, _, _, TD, _⟩ := exc_obj X hD
  have hcB : (Value.ref D :: bm').contains (.type "BaseException") = true := by
    rw [List.contains_cons, TD.hasType (X := "BaseException") (b := true) (by decide), Bool.or_true]
  have hcC : (Value.ref C :: bm).contains (.ref D) = b := mroC _ _ hm
  have f := tc_notTuple
  unfold excMatches
  repeat (first | (with_reducible refine wpAny_loadPart_at he ?_; rw [hcls]) | with_reducible refine wpAny_loadPart_at oD ?_ | (with_reducible refine wpAny_isSubtype_exc oD ?_; rw [hcB]) | (with_reducible refine wpAny_isSubtype_exc oC ?_; rw [hcC]) | wp_step)
  all_goals (cases b <;> first | exact hq | (wp_walk; exact hq))
theorem ObjOk.there {P : Program} {w : World} {H : Hp} {h : Heap} {a : Addr} {o : HO} (x : ObjOk P w H h a o) : ∃ ob, h.get? a = some ob := by
  cases o with
  | lst xs => obtain ⟨_, _, _, _, e⟩ := x; exact ⟨_, e⟩
  | tup xs => obtain ⟨_, _, _, p⟩ := x; obtain ⟨ob, e, _⟩ := p; exact ⟨ob, e⟩
  | dK kvs => obtain ⟨_, _, _, _, o, _, _, e, _⟩ := x; exact ⟨_, e⟩
  | dT kvs => obtain ⟨_, _, _, _, o, _, _, e, _⟩ := x; exact ⟨_, e⟩
  | set S n => obtain ⟨o, _, _, _, e, _⟩ := x; exact ⟨_, e⟩
  | ins C dx fs => obtain ⟨_, _, _, e, _⟩ := x; exact ⟨_, e⟩
  | own y => exact x
  | xd fs => obtain ⟨_, ⟨_, _, _, e, _⟩, _⟩ := x; exact ⟨_, e⟩
  | rng lo hi => obtain ⟨_, _, _, e⟩ := x; exact ⟨_, e⟩
  | frz ob u => obtain ⟨e, _⟩ := x; exact ⟨_, e⟩
  | tbl ps => exact ⟨_, show h.get? a = some _ from x⟩
  | met f y => exact ⟨_, show h.get? a = some _ from x⟩
  | ext φ => obtain ⟨_, e, _⟩ := x; exact e
structure XO (P : Program) (w : World) (outer : List Env) (H : Hp) (s : Shared) (cls : Value) (a : Addr) (H' : Hp) (s' : Shared) : Prop where
  os : s'.os = s.os
  bare : AllBare s'.gens
  un : Un (frs outer) [] H H' s.heap s'.heap
  hok : HOk P w H' s'.heap
  new : s.heap.get? a = none
  free : H' a = none
  fly : ∃ B a0, Heap.FlyingW B outer a cls a0 s'.heap /\ ∀ b o, (H' b ≠ none \/ ∃ o', s.heap.get? b = some o') -> b ∉ frs outer -> s'.heap.get? b = some o -> B.get? b = some o
def CXe (P : Program) (w : World) : CXT := fun outer H s E e s' => ∃ a cls H', e = .ref a /\ XO P w outer H s cls a H' s' /\ E cls none H'
section
variable {X : Cx} {pins : List (Addr × Obj)} {σ : St} {H H' : Hp} {s s' : Shared} {M : Model} {E' : Value -> Shared -> Prop} {a : Addr} {cls : Value}
theorem Un.fly {fs : List Addr} {H0 : Hp} {h0 h h' B : Heap} {fr : List Addr} (u : Un fs [] H0 H h0 h) (hfs : ∀ b ∈ fr, b ∈ fs \/ ∀ o, h0.get? b ≠ some o) (stay : B.StaysIn h') (big : ∀ b o, h.get? b = some o -> b ∉ fr -> (H b ≠ none \/ ∃ o', h0.get? b = some o') -> B.get? b = some o)
    (slots : ∀ b o, h.get? b = some o -> b ∈ fr -> ∃ sl, h'.get? b = some { o with slots := sl }) (sub : ∀ b ∈ fs, b ∈ fr) : Un fs [] H0 H h0 h' where
  keep := fun b o q n hb hx => by
    have e := u.keep b o q n hb hx
    have hf : b ∉ fr := fun z => by
      rcases hfs b z with y | y
      · exact hb y
      · exact y o q
    exact stay b o (big b o e hf (.inr ⟨o, q⟩))
  slot := fun b o q n hb hx => by
    obtain ⟨sl, e⟩ := u.slot b o q n hb hx
    obtain ⟨sl', e'⟩ := slots b _ e (sub b hb)
    exact ⟨sl', e'⟩
  free := u.free
  there := fun b o q hx => by
    obtain ⟨o', e⟩ := u.there b o q hx
    by_cases hf : b ∈ fr
    · obtain ⟨sl, e'⟩ := slots b o' e hf
      exact ⟨_, e'⟩
    · exact ⟨o', stay b o' (big b o' e hf (.inr ⟨o, q⟩))⟩
  tups := u.tups
  frzs := u.frzs
  tbls := u.tbls
theorem HOk.fly {P : Program} {w : World} {H : Hp} {h h' B : Heap} {fr : List Addr} (ok : HOk P w H h) (hfr : ∀ b ∈ fr, H b = none) (stay : B.StaysIn h') (big : ∀ b o, h.get? b = some o -> b ∉ fr -> H b ≠ none -> B.get? b = some o) : HOk P w H h' := fun a o e => by
  refine (ok a o e).stay (fun b u hb q => ?_) (fun _ q => q) fun _ _ q => q
  have hn : H b ≠ none := by
    rcases hb with rfl | hb
    · rw [e]; exact fun z => nomatch z
    · rw [hb]; exact fun z => nomatch z
  exact stay b u (big b u q (fun z => hn (hfr b z)) hn)
theorem frs_cons {env : Env} {l : List Env} {L : Addr} (h : env.frame = some L) : frs (env :: l) = L :: frs l := by
  unfold frs
  rw [List.filterMap_cons, h]
theorem Inv.raise (I : Inv X pins σ H s) (hs : X.stack = X.env :: X.outer) (hf : X.env.frame = some X.env.locals) (hex : X.ex = []) {h1 : Heap} {args : List Value} (hx : Heap.MadeExcOf s.heap h1 a cls args) :
    wpAny M X.A (leaving X.env (.ref a)) (fun _ s'' => XO X.prog X.w X.outer X.H₀ X.s₀ cls a H s'') E' { s with heap := h1 } := by
  have hfr : X.A.frames = some (X.env :: X.outer) := by rw [<- hs]; exact I.ok.frames
  have hFF : s.heap.FunFrames X.base (X.env :: X.outer) := by rw [<- hs]; exact I.stack
  have hin : ∀ env ∈ (X.env :: X.outer), ∀ b, env.frame = some b -> b ∈ frs (X.env :: X.outer) := fun env he b hb => List.mem_filterMap.mpr ⟨env, he, hb⟩
  have hfree : ∀ b ∈ frs (X.env :: X.outer), H b = none := by rw [<- hs]; exact I.stkFree
  have ub : Un X.fs [] X.H₀ H X.s₀.heap s.heap := by have := I.base; rw [hex] at this; exact this
  have nL : ∀ o, X.s₀.heap.get? X.env.locals ≠ some o := fun o z => absurd (Nat.lt_of_lt_of_le (Heap.lt_size z) I.ok.above) (Nat.lt_irrefl _)
  have big : ∀ b o, s.heap.get? b = some o -> b ∉ frs (X.env :: X.outer) -> (PySem.W.hideAll s.heap (frs (X.env :: X.outer))).get? b = some o := fun b o e n => PySem.W.hideAll_get _ e n
  refine wpAny_leaves_madeW (base := PySem.W.hideAll s.heap (frs (X.env :: X.outer))) hfr hf (fun b o q => PySem.W.of_hideAll _ q) (PySem.W.funFrames_hide hFF hin) hx fun h' t fl _ _ up => ?_
  have slots : ∀ b o, s.heap.get? b = some o -> b ∈ frs (X.env :: X.outer) -> ∃ sl, h'.get? b = some { o with slots := sl } := fun b o e hb => by
    obtain ⟨_, o', e', nf⟩ := hFF.mem hb
    rw [e] at e'
    cases e'
    exact up b o (hx.keeps b o e) nf
  have hfs : ∀ b ∈ frs (X.env :: X.outer), b ∈ X.fs \/ ∀ o, X.s₀.heap.get? b ≠ some o := fun b hb => by
    rw [frs_cons hf] at hb
    rcases List.mem_cons.mp hb with rfl | hb
    · exact .inr nL
    · exact .inl hb
  have sub : ∀ b ∈ X.fs, b ∈ frs (X.env :: X.outer) := fun b hb => by
    rw [frs_cons hf]
    exact List.mem_cons_of_mem _ hb
  refine ⟨I.os, I.bare, ub.fly hfs fl.1 (fun b o e n _ => big b o e n) slots sub, I.hok.fly hfree fl.1 (fun b o e n _ => big b o e n), ?_, ?_, _, _, fl, fun b o hb hn e => ?_⟩
  · cases q : X.s₀.heap.get? a with
    | none => rfl
    | some o =>
      obtain ⟨o', e⟩ := ub.there a o q (by simp)
      have := hx.new
      rw [e] at this
      cases this
  · cases q : H a with
    | none => rfl
    | some o =>
      obtain ⟨ob, e⟩ := (I.hok a o q).there
      have := hx.new
      rw [e] at this
      cases this
  · have hbs : ∃ ob, s.heap.get? b = some ob := by
      rcases hb with hb | ⟨o', hb⟩
      · cases q : H b with
        | none => exact absurd q hb
        | some u => exact (I.hok b u q).there
      · exact ub.there b o' hb (by simp)
    have hnL : b ∉ frs (X.env :: X.outer) := fun z => by
      rw [frs_cons hf] at z
      rcases List.mem_cons.mp z with rfl | z
      · rcases hb with hb | ⟨o', hb⟩
        · exact hb I.free
        · exact nL o' hb
      · exact hn z
    obtain ⟨ob, e1⟩ := hbs
    have e2 := big b ob e1 hnL
    have e3 := fl.1 b ob e2
    rw [e] at e3
    cases e3
    exact e2
theorem Inv.pass (I : Inv X pins σ H s) (hs : X.stack = X.env :: X.outer) (hf : X.env.frame = some X.env.locals) (hex : X.ex = []) (x : XO X.prog X.w X.stack H s cls a H' s') :
    wpAny M X.A (leaving X.env (.ref a)) (fun _ s'' => XO X.prog X.w X.outer X.H₀ X.s₀ cls a H' s'') E' s' := by
  rw [hs] at x
  have hfr : X.A.frames = some (X.env :: X.outer) := by rw [<- hs]; exact I.ok.frames
  obtain ⟨B, a0, fly, big⟩ := x.fly
  have ub : Un X.fs [] X.H₀ H X.s₀.heap s.heap := by have := I.base; rw [hex] at this; exact this
  have nL : ∀ o, X.s₀.heap.get? X.env.locals ≠ some o := fun o z => absurd (Nat.lt_of_lt_of_le (Heap.lt_size z) I.ok.above) (Nat.lt_irrefl _)
  have hfree : ∀ b ∈ frs (X.env :: X.outer), H b = none := by rw [<- hs]; exact I.stkFree
  have hFF : s.heap.FunFrames X.base (X.env :: X.outer) := by rw [<- hs]; exact I.stack
  have hsub : ∀ b ∈ X.fs, b ∈ frs (X.env :: X.outer) := fun b hb => by
    rw [frs_cons hf]
    exact List.mem_cons_of_mem _ hb
  have ut : Un X.fs [] X.H₀ H' X.s₀.heap s'.heap := by
    have nofr : ∀ b o, X.s₀.heap.get? b = some o -> b ∉ X.fs -> b ∉ frs (X.env :: X.outer) := fun b o q hb z => by
      rw [frs_cons hf] at z
      rcases List.mem_cons.mp z with rfl | z
      · exact nL o q
      · exact hb z
    refine ⟨fun b o q n hb hx => x.un.keep b o (ub.keep b o q n hb hx) (ub.free b o q n hx) (nofr b o q hb) (by simp), fun b o q n hb hx => ?_, fun b o q n hx => ?_, fun b o q hx => ?_, fun b xs q => x.un.tups b xs (ub.tups b xs q), fun b o u q => x.un.frzs b o u (ub.frzs b o u q), fun b ps q => ?_⟩
    · obtain ⟨sl, e⟩ := ub.slot b o q n hb hx
      obtain ⟨sl', e'⟩ := x.un.slot b _ e (ub.free b o q n hx) (hsub b hb) (by simp)
      exact ⟨sl', e'⟩
    · obtain ⟨o', e⟩ := ub.there b o q hx
      exact x.un.free b o' e (ub.free b o q n hx) (by simp)
    · obtain ⟨o', e⟩ := ub.there b o q hx
      exact x.un.there b o' e (by simp)
    · obtain ⟨m1, e1⟩ := ub.tbls b ps q
      obtain ⟨m2, e2⟩ := x.un.tbls b _ e1
      exact ⟨m1 ++ m2, by rw [e2, Array.append_assoc]⟩
  have hfree' : ∀ b ∈ frs (X.env :: X.outer), H' b = none := fun b hb => by
    obtain ⟨_, o, e, _⟩ := hFF.mem hb
    exact x.un.free b o e (hfree b hb) (by simp)
  refine wpAny_leaves_onW hfr hf fly fun h' fl up => ?_
  have bigT : ∀ b o, s'.heap.get? b = some o -> b ∉ frs (X.env :: X.outer) -> (H' b ≠ none \/ ∃ o', X.s₀.heap.get? b = some o') -> B.get? b = some o := fun b o e n hb => by
    refine big b o ?_ n e
    rcases hb with hb | ⟨o', hb⟩
    · exact .inl hb
    · exact .inr (ub.there b o' hb (by simp))
  have slots : ∀ b o, s'.heap.get? b = some o -> b ∈ frs (X.env :: X.outer) -> ∃ sl, h'.get? b = some { o with slots := sl } := fun b o e hb => by
    obtain ⟨_, o', e', nf⟩ := fly.2.2.1.mem hb
    rw [e] at e'
    cases e'
    exact up b o e nf
  have hfs : ∀ b ∈ frs (X.env :: X.outer), b ∈ X.fs \/ ∀ o, X.s₀.heap.get? b ≠ some o := fun b hb => by
    rw [frs_cons hf] at hb
    rcases List.mem_cons.mp hb with rfl | hb
    · exact .inr nL
    · exact .inl hb
  refine ⟨x.os.trans I.os, x.bare, ut.fly hfs fl.1 bigT slots hsub, x.hok.fly hfree' fl.1 (fun b o e n hb => bigT b o e n (.inl hb)), ?_, x.free, B, a0, fl, fun b o hb hn e => ?_⟩
  · cases q : X.s₀.heap.get? a with
    | none => rfl
    | some o =>
      obtain ⟨o', e⟩ := ub.there a o q (by simp)
      have := x.new
      rw [e] at this
      cases this
  · have hnL : b ∉ frs (X.env :: X.outer) := fun z => by
      rw [frs_cons hf] at z
      rcases List.mem_cons.mp z with rfl | z
      · rcases hb with hb | ⟨o', hb⟩
        · exact hb (hfree' _ (by rw [frs_cons hf]; exact List.mem_cons_self))
        · exact nL o' hb
      · exact hn z
    have hbs : ∃ ob, s'.heap.get? b = some ob := by
      rcases hb with hb | ⟨o', hb⟩
      · cases q : H' b with
        | none => exact absurd q hb
        | some u => exact (x.hok b u q).there
      · exact ut.there b o' hb (by simp)
    obtain ⟨ob, e1⟩ := hbs
    have e2 := bigT b ob e1 hnL hb
    have e3 := fl.1 b ob e2
    rw [e] at e3
    cases e3
    exact e2
end
end L2
namespace L2
open PySem PySem.Spec PyProof.Rows
def Cx.hand (X : Cx) (a : Addr) : Cx := { X with A := X.A.mark (some (.ref a)), calm := false, xe := fun _ _ => False }
theorem Cx.Ok.hand {X : Cx} (ok : X.Ok) (a : Addr) : (X.hand a).Ok :=
  ⟨ok.mod, ok.kind, ok.glob, ok.blt, ok.above, ok.inj, ok.has, ok.cab, (fun z => nomatch z), ok.frames, ok.stk, ok.exf, ok.bs, ok.bsz, ok.noex, ok.exfs, ok.funs, ok.frf⟩
section
variable {X : Cx} {pins : List (Addr × Obj)} {σ : St} {H H' : Hp} {s s' : Shared} {a : Addr}
theorem Inv.hand (I : Inv X pins σ H s) (a : Addr) : Inv (X.hand a) pins σ H s := ⟨I.ok.hand a, I.os, I.bare, I.base, I.loc, I.cell, I.free, I.freeC, I.pin, I.hok, I.len⟩
theorem Inv.unhand (ok : X.Ok) (I : Inv (X.hand a) pins σ H s) : Inv X pins σ H s := ⟨ok, I.os, I.bare, I.base, I.loc, I.cell, I.free, I.freeC, I.pin, I.hok, I.len⟩
theorem Inv.track {o : HO} (I : Inv X pins σ H s) (hn : H a = none) (hnew : ∀ u, X.s₀.heap.get? a ≠ some u) (hok : ObjOk X.prog X.w (upd H a o) s.heap a o) (neL : a ≠ X.env.locals) (neC : ∀ x c, X.env.cells.lookup x = some c -> c ≠ a) (neP : ∀ p ∈ X.pn ++ pins, p.1 ≠ a) : Inv X pins σ (upd H a o) s := by
  have ne : ∀ {b : Addr} {u : HO}, H b = some u -> b ≠ a := fun e => ne_of_none e hn
  refine ⟨I.ok, I.os, I.bare, ⟨I.base.keep, I.base.slot, fun b u q n hx => ?_, I.base.there, fun b xs q => ?_, fun b u v q => ?_, fun b ps q => ?_⟩, I.loc, I.cell, ?_, fun x c e => ?_, fun p hp => ?_, fun b u q => ?_, I.len⟩
  · rw [upd_ne (fun z : b = a => hnew u (by rw [<- z]; exact q))]
    exact I.base.free b u q n hx
  · have := I.base.tups b xs q
    rw [upd_ne (ne this)]
    exact this
  · have := I.base.frzs b u v q
    rw [upd_ne (ne this)]
    exact this
  · obtain ⟨m, e⟩ := I.base.tbls b ps q
    exact ⟨m, by rw [upd_ne (ne e)]; exact e⟩
  · rw [upd_ne (Ne.symm neL)]
    exact I.free
  · rw [upd_ne (neC x c e)]
    exact I.freeC x c e
  · obtain ⟨e, n, y⟩ := I.pin p hp
    exact ⟨e, by rw [upd_ne (neP p hp)]; exact n, y⟩
  · by_cases hb : b = a
    · subst hb
      rw [upd_same] at q
      cases q
      exact hok
    · rw [upd_ne hb] at q
      exact (I.hok b u q).stay (fun _ _ _ z => z) (fun c z => by rw [upd_ne (ne z)]; exact z) fun c xs z => by rw [upd_ne (ne z)]; exact z
theorem Inv.gone {i : Nat} {x : Str} {h' : Heap} {v : Option Value} {m : Str -> Option Value} {tk : Nat} (I : Inv X pins σ H s) (hN : X.N.Nodup) (hi : X.N[i]? = some x) (hn : s.heap.Ns X.env.locals m)
    (hl : ∀ (i : Nat) (x : Str) (v : V), X.N[i]? = some x -> σ[i]? = some (some v) -> Vis X.env.scope x -> ∃ u, RelV v u /\ Look X.env s.heap m x u)
    (hn' : h'.Ns X.env.locals (fun y => if y = x then v else m y)) (hs : Heap.SameBut X.env.locals s.heap h') : Inv X pins (σ.set i none) H { s with heap := h', toks := tk } := by
  have cne := I.cne
  obtain ⟨oL, _, _, hoL, _⟩ := id hn
  refine ⟨I.ok, I.os, I.bare, ⟨fun b o e n hb hx => ?_, fun b o e n hb hx => ?_, I.base.free, fun b o e hx => ?_, I.base.tups, I.base.frzs, I.base.tbls⟩, ⟨_, hn', fun j y v' e1 e2 e3 => ?_⟩, fun y c e => ?_, I.free, I.freeC, fun p hp => ?_, fun b ob e => ?_, by simpa using I.len⟩
  · exact (hs.2 b (Nat.ne_of_lt (Nat.lt_of_lt_of_le (Heap.lt_size e) I.ok.above))).trans (I.base.keep b o e n hb hx)
  · obtain ⟨sl, e1⟩ := I.base.slot b o e n hb hx
    exact ⟨sl, (hs.2 b (Nat.ne_of_lt (Nat.lt_of_lt_of_le (Heap.lt_size e) I.ok.above))).trans e1⟩
  · obtain ⟨o', e1⟩ := I.base.there b o e hx
    exact ⟨o', (hs.2 b (Nat.ne_of_lt (Nat.lt_of_lt_of_le (Heap.lt_size e) I.ok.above))).trans e1⟩
  · by_cases hj : j = i
    · subst hj
      by_cases hlt : j < σ.length
      · rw [List.getElem?_set_self hlt] at e2; cases e2
      · rw [List.getElem?_eq_none (by simp; omega)] at e2; cases e2
    · rw [List.getElem?_set_ne (Ne.symm hj)] at e2
      obtain ⟨u', r', q⟩ := hl j y v' e1 e2 e3
      refine ⟨u', r', ?_⟩
      rcases q with ⟨k, e⟩ | ⟨k, c, e, z⟩
      · refine .inl ⟨k, ?_⟩
        have : y ≠ x := fun e => hj (nodup_ix hN e1 (e ▸ hi))
        simp [this, e]
      · exact .inr ⟨k, c, e, z.sameBut hs (cne y c e)⟩
  · obtain ⟨w', z⟩ := I.cell y c e
    exact ⟨w', z.sameBut hs (cne y c e)⟩
  · obtain ⟨e, n, ne, nf, d⟩ := I.pin p hp
    exact ⟨(hs.2 p.1 ne).trans e, n, ne, nf, d⟩
  · refine (I.hok b ob e).stay (fun c w' hc q => (hs.2 c ?_).trans q) (fun _ q => q) fun _ _ q => q
    rintro rfl
    rcases hc with rfl | hc
    · rw [I.free] at e; cases e
    · rw [I.free] at hc; cases hc
def tRaise (EX : Hp -> Prop) (t : TA) : TS := fun _ σ H => t σ H fun vs H1 => vs.length <= 10 /\ EX H1
theorem ps_raise {x : Str} {C : Addr} {e : Expr} {es : List Expr} {t : TA} {np cpos pos : Pos} {EX : Hp -> Prop} (hc : X.calm = true) (hg : Gl X x) (hm : X.mg x = some (.ref C)) (he : ExcC X.K C) (ha : PA X (e :: es) t)
    (hx : ∀ pins σ H s h' a vs, Inv X pins σ H s -> Heap.MadeExcOf s.heap h' a (.ref C) vs -> EX H -> X.xe (.ref a) { s with heap := h' })
    (hd : (x == ("__debug__" : Str)) = false := by decide) (hst : starEach (e :: es) X.env = (false, eval e X.env) :: starEach es X.env := by rfl) (hpl : (backTo cpos (starEach es X.env)).any (·.1) = false := by rfl) :
    PS X (.Raise (some (.Call (.Name x np) (e :: es) [] cpos)) none pos) (tRaise EX t) := by
  intro pins s σ H D I h
  obtain ⟨bm, N, nm, qn, bs, hdct, sn, sub, ab, col, dd, k0, k1, k2, k3, k5, mN, oC, hN, hni, TL, _⟩ := exc_obj (I.ok.mod.kin) he
  refine wpAny_Raise_call_subT (C := C) (nm := nm) (q := qn) (N := N) (bs := bs) (bm := bm) (hdct := hdct) (sn := sn) (sub := sub) (ab := ab) (col := col) (dd := dd) (k0 := k0) (k1 := k1) (k2 := k2) (k3 := k3) (k5 := k5)
    PySem.F.excBase_ValueError (mN := mN) (TL.hasType (by decide)) (I.ok.hd hc) (by rw [hst]; show (false || (backTo cpos (starEach es X.env)).any (·.1)) = false; rw [hpl]; rfl) hni (ld_glob I hg hm ⟨rfl, ?_⟩ hd)
  have hA := ha cpos pins s σ H _ I h
  rw [hst] at hA ⊢
  refine Calls.evalArgs_plain (thn hA fun us s1 ⟨vs, H1, I1, r, z, q⟩ => ⟨rfl, ?_, I1.bk _ _ oC, hN.keeps I1.bk, TL.keeps I1.bk, fun h' a hmk => hx pins σ H1 s1 h' a us I1 hmk q⟩)
  rw [<- r.length]
  exact fits2 (by omega)
end
section
variable {P : Program} {w : World} {K : PySem.W.Frag} {mg : Str -> Option Value} {base : Heap} {N : List Str} {qual : Str} {scope : Scope} {f : Addr} {cd : Value} {A : Around} {outer : List Env} {s₀ : Shared} {H₀ : Hp} {E : XK}
theorem xe_raise {C : Addr} : ∀ pins σ H s h' a vs, Inv (cxOf (CXe P w) P w K mg base N qual scope f cd A outer s₀ H₀ E) pins σ H s -> Heap.MadeExcOf s.heap h' a (.ref C) vs -> E (.ref C) none H ->
    (cxOf (CXe P w) P w K mg base N qual scope f cd A outer s₀ H₀ E).xe (.ref a) { s with heap := h' } := fun pins σ H s h' a vs I hmk q =>
  wpAny_mono (Inv.raise (M := model P w) (E' := fun _ _ => False) I rfl rfl rfl hmk) (fun _ s'' x => ⟨a, .ref C, H, rfl, x, q⟩) fun _ _ z => z.elim
theorem pass_on : Passes (CXe P w) (cxOf (CXe P w) P w K mg base N qual scope f cd A outer s₀ H₀ E) E := fun pins σ H s e s' I h => by
  obtain ⟨a, cls, H', rfl, x, q⟩ := h
  exact wpAny_mono (Inv.pass (M := model P w) (E' := fun _ _ => False) I rfl rfl rfl x) (fun _ s'' y => ⟨a, cls, H', rfl, y, q⟩) fun _ _ z => z.elim
theorem Fun.okE {x qual : Str} {st : Stmt} {f : Addr} {fd : FuncData} {N ps : List Str} {k : Nat} {sp : Sp} (F : Fun K x qual st f fd) (S : FnScope N ps (defScope st)) (len : ∀ vs H Q E, sp vs H Q E -> vs.length = ps.length)
    (hbody : ∀ (cdv : Value) (A : Around) (outer : List Env) (s : Shared) (H : Hp) (vs : List V) (Q : VK) (E : XK), Room k (A.deeper (envOfC qual (defScope st) s.heap.objs.size f cdv)) -> sp vs H Q E ->
      ∃ t, QSs (cxOf (CXe P w) P w K mg base N qual (defScope st) f cdv A outer s H E) (defBody st) t /\ t { nx := fun _ H' => Q .non H', rt := Q } (start N vs) H) : FnOk P w K mg base (CXe P w) (k + 1) f fd ps sp := by
  obtain ⟨oc, od, kV, doc, pm, an, cdv, ct, osl, rfl, lk, hcd⟩ := F.ex
  refine fn_of lk hcd S len fun A outer s H vs Q E hr hsp => ?_
  obtain ⟨t, h, q⟩ := hbody cdv A outer s H vs Q E hr hsp
  exact ⟨t, h.h, q⟩
end
def excO (a C : Addr) : HO := .ext fun h => ∃ o, h.get? a = some o /\ o.cls = .ref C
section
variable {X : Cx} {k : Nat} {f Dc : Addr} {fd : FuncData} {ps : List Str} {sp : Sp} {x dn n : Str} {i : Nat} {p cpos epos np hpos pos : Pos} {e : Expr} {es : List Expr} {t : TA} {ts : TS} {b0 : Stmt} {suite : List Stmt}
end
end L2
namespace L2
open PySem PySem.Spec PySem.Calls PyProof.Rows PySem.W Builtin Builtin.ObjectAttr Builtin.Getset_descriptor
structure XCls (K : Frag) (C : Addr) : Prop where
  ex : ExcC K C
  ga : findIn K (.ref C) "__getattribute__" = some (some (.builtin "BaseException.__getattribute__"))
  gt : findIn K (.ref C) "__getattr__" = some none
  ca : findIn K (.ref C) "__class__" = some (some (.builtin "object.__class__"))
  sp : specialIn K (.builtin "object.__class__") "__get__" = some (some (.builtin "getset_descriptor.__get__"))
  tk : takesIn K (.builtin "object.__class__") = some true
  mo : mroIn K C (.type "object") = some true
  mb : mroIn K C (.type "BaseException") = some true
def ExcAt (a C : Addr) (h : Heap) : Prop := ∃ o, h.get? a = some o /\ o.cls = .ref C
section
variable {prog : Program} {w : World} {A : Around} {E : Value -> Shared -> Prop} {K : Frag} {a C : Addr} {s : Shared}
theorem excAt_ty {M : Model} {h : Heap} (p : ExcAt a C h) : Looks M h (typeOf (.ref a)) (.ref C) := by
  obtain ⟨o, h1, h2⟩ := p
  exact h2 ▸ (Looks.ld h1).andThen .now
theorem exc_class_get {R : Result -> Shared -> Prop} {tp : Value} (X : K.In s.heap) (I : ExcAt a C s.heap) (hm : mroIn K C (.type "object") = some true)
    (h : R (.ok (.ret (.ref C))) s) : codeAny (model prog w) A (.call (.builtin "getset_descriptor.__get__") ⟨[.builtin "object.__class__", .ref a, tp], []⟩) R s := by
  obtain ⟨hh, g, dr, t, os⟩ := s
  have L0 := excAt_ty (M := model prog w) I
  have L1 := looks_mroIn (M := model prog w) X hm
  refine codeAny_call_builtin KF.slot_gs.plain KF.entry_gs (KF.slot_gs.check _ _ _ _ _ _ _ _ KF.type_class (KF.args_gs _ _ _) ?_)
  unfold Builtin.«getset_descriptor.__get__» descrGet
  rw [dga_obj]
  refine wpAny_bind (wpAny_pure ?_)
  unfold descrGetter descrCheckInstance descrNameAndClass isInstance
  simp only [KF.owner_class]
  repeat lk
  refine ⟨Code.quiet_builtin _ (by decide +kernel), codeAny_builtin KF.entry_class ?_⟩
  unfold Builtin.«object.__class__» shownTypeOf
  repeat lk
  exact h
theorem exc_check_ga {M : Model} {nameV : Value} {Q : Unit -> Shared -> Prop} (X : K.In s.heap) (I : ExcAt a C s.heap) (hm : mroIn K C (.type "BaseException") = some true) (hq : Q () s) : wpAny M A (checkBuiltinCall "BaseException.__getattribute__" ⟨[.ref a, nameV], []⟩) Q E s := by
  obtain ⟨hh, g, dr, t, os⟩ := s
  have hk : builtinKind "BaseException.__getattribute__" = some .slot := by decide +kernel
  have hsplit : splitId "BaseException.__getattribute__" = some ("BaseException", "__getattribute__") := by decide +kernel
  have ha := F.args_bexc_ga (.ref a) nameV
  have L0 := excAt_ty (M := M) I
  have L1 := looks_mroIn (M := M) X hm
  simp only [checkBuiltinCall, hk, hsplit]
  refine wpAny_bind ?_
  unfold isInstance
  refine wpAny_bind (L0.at (L1.at ?_))
  repeat (first | assumption | wp_step)
theorem exc_entry {tk : Tok} {Q : Fin -> Shared -> Prop} (X : K.In s.heap) (I : ExcAt a C s.heap) (c : XCls K C) (hq : Q (.done (.ret (.ref C))) s) : wpAny (model prog w) A (Builtin.«object.__getattribute__» ⟨[.ref a, .str "__class__" tk], []⟩) Q E s := by
  obtain ⟨hh, g, dr, t, os⟩ := s
  have L0 := excAt_ty (M := model prog w) I
  have L1 := looks_findIn (M := model prog w) X c.ca
  have f5 := F.typeOf_object_class
  have f6 := F.slot_gs_get.lookup
  have f7 := F.slot_gs_set.lookup
  have hT5 : (⟨hh, g, dr, t, os⟩ : Shared).TypeIs (.builtin "object.__class__") "getset_descriptor" := F.typeOf_object_class
  repeat (any_goals (first | assumption | with_reducible refine L0.at ?_ | with_reducible refine L1.at ?_ | wp_step))
  refine exc_class_get X I c.mo ?_
  repeat (any_goals (first | assumption | wp_step))
theorem exc_ca {Q : Option Value -> Shared -> Prop} (X : K.In s.heap) (I : ExcAt a C s.heap) (c : XCls K C) (hq : Q (some (.ref C)) { s with toks := s.toks + 1 }) : wpAny (model prog w) A (getAttr? (.ref a) "__class__") Q E s := by
  obtain ⟨hh, g, dr, t, os⟩ := s
  have L0 := excAt_ty (M := model prog w) I
  have L1 := looks_findIn (M := model prog w) X c.ga
  have L2' := looks_findIn (M := model prog w) X c.gt
  have f3 := PySem.F.excAttr_ValueError.ga.bind (.ref a)
  have hx2 : (Value.builtin "BaseException.__getattribute__" == Value.builtin "object.__getattribute__") = false := by decide +kernel
  have hx1 : (onTheHeap (Value.ref C) && Value.builtin "BaseException.__getattribute__" == Value.builtin "object.__getattribute__") = false := by rw [hx2]; rfl
  unfold getAttr? getAttrBy?
  repeat (any_goals (first | assumption | with_reducible refine L0.at ?_ | with_reducible refine L1.at ?_ | with_reducible refine L2'.at ?_ | wp_step))
  refine codeAny_call_builtin PySem.F.excAttr_ValueError.ga.plain F.entry_bexc_ga (exc_check_ga X I c.mb (exc_entry X I c ?_))
  exact handed_on rfl (wpAny_pure hq)
theorem kitx_exc (c : XCls K C) : KitX K (.ref a) (.ref C) (ExcAt a C) where
  ty := fun _ _ _ I => excAt_ty I
  it := fun _ h X _ => by
    obtain ⟨bm, N, nm, qn, bs, hdct, sn, sub, ab, col, dd, k0, k1, k2, k3, k5, mN, oC, _⟩ := exc_obj X c.ex
    intro A' Q' E' s' k q
    unfold isType loadHead
    exact wpAny_bind (wpAny_loadPart (k _ _ oC) (wpAny_pure q))
  ne := fun h tp dd its n sl X htp => by
    obtain ⟨bm, N, nm, qn, bs, hdct, sn, sub, ab, col, dd', k0, k1, k2, k3, k5, mN, oC, _⟩ := exc_obj X c.ex
    refine Bool.eq_false_iff.mpr fun q => ?_
    have e : C = tp := Value.ref.inj (beq_iff_eq.mp q)
    subst e
    have z := congrArg (fun o : Option Obj => o.map (·.cls)) (oC.symm.trans htp)
    simp [excClassObj] at z
  ca := fun X I k => exc_ca X I c k
end
section
variable {X : Cx}
theorem vals_refs : ∀ {ds : List Addr} {us : List Value}, Vals (ds.map V.ref) us -> us = ds.map Value.ref
  | [], _, r => by cases r; rfl
  | d :: ds, _, r => by
    rw [List.map_cons] at r
    cases r with
    | cons r1 r2 =>
      cases (show _ = Value.ref d from r1)
      rw [vals_refs r2]
      rfl
theorem call_isx : CallR X (.builtin "isinstance") (fun xs H Q => ∃ (a C : Addr) (v : V) (b : Bool), xs = [.ref a, v] /\ H a = some (excO a C) /\ XCls X.K C /\
    ((∃ D, v = .ref D /\ kitOne X.K (.ref C) (.ref D) = some b) \/ (∃ T, v = .ty T /\ kitOne X.K (.ref C) (.type T) = some b) \/ (∃ (p : Addr) (ds : List Addr), v = .ref p /\ H p = some (.tup (ds.map V.ref)) /\ kitAny X.K (.ref C) (ds.map Value.ref) = some b)) /\ Q (.bl b) H) := by
  intro pins s σ H xs us Q I r h
  obtain ⟨a, C, v, b, rfl, ha, c, alt, q⟩ := h
  obtain ⟨u, u', rfl, ru, rv⟩ := vals2 r
  cases ru
  have hat : ExcAt a C s.heap := (I.hok a _ ha).1
  have fin : ∀ tk, EP X pins σ Q (.bool b) { s with toks := tk } := fun tk => ⟨.bl b, H, I.tok tk, rfl, q⟩
  rcases alt with ⟨D, rfl, e⟩ | ⟨T, rfl, e⟩ | ⟨p, ds, rfl, hp, e⟩
  · cases rv
    exact kia_one (kitx_exc c) I.kIn hat e (fun z => nomatch z) fin
  · cases rv
    exact kia_one (kitx_exc c) I.kIn hat e (fun z => nomatch z) fin
  · cases rv
    obtain ⟨its, r1, ⟨⟨cls, dd, data, sl⟩, ho, hc, n, hd⟩, _⟩ := I.tuple (.of hp)
    simp only at hc hd
    subst hc hd
    rw [vals_refs r1] at ho
    exact kia_tup (kitx_exc c) I.kIn hat ho e (fun z => nomatch z) fin
end
end L2
namespace L2
open PySem PySem.Spec PyProof.Rows
mutual
/-- what a value shows, read through the abstract heap -/
inductive Shw (K : PySem.W.Frag) (H : Hp) : V -> PyData -> Prop
  | non : Shw K H .non .none
  | bl (b : Bool) : Shw K H (.bl b) (.bool b)
  | int (i : Int) : Shw K H (.int i) (.int i)
  | str (x : Str) : Shw K H (.str x) (.str x)
  | lst {a : Addr} {vs : List V} {ds : List PyData} : SqL K H a vs -> ShwA K H vs ds -> Shw K H (.ref a) (.list ds)
  | tup {a : Addr} {vs : List V} {ds : List PyData} : SqT K H a vs -> ShwA K H vs ds -> Shw K H (.ref a) (.tuple ds)
inductive ShwA (K : PySem.W.Frag) (H : Hp) : List V -> List PyData -> Prop
  | nil : ShwA K H [] []
  | cons {v : V} {d : PyData} {vs : List V} {ds : List PyData} : Shw K H v d -> ShwA K H vs ds -> ShwA K H (v :: vs) (d :: ds)
end
section
variable {X : Cx} {pins : List (Addr × Obj)} {σ : St} {H : Hp} {s : Shared}
mutual
theorem Inv.reads (I : Inv X pins σ H s) : ∀ {v : V} {d : PyData} {u : Value}, Shw X.K H v d -> RelV v u -> ∃ as, Reads s.heap u d as
  | _, _, _, .non, r => by cases r; exact ⟨_, .none⟩
  | _, _, _, .bl b, r => by cases r; exact ⟨_, .bool b⟩
  | _, _, _, .int i, r => by obtain ⟨t, rfl⟩ := r; exact ⟨_, .int i t⟩
  | _, _, _, .str x, r => by obtain ⟨t, rfl⟩ := r; exact ⟨_, .str x t⟩
  | _, _, _, .lst h1 h2, r => by
    cases r
    obtain ⟨its, rs, ⟨o, n, e, c, _, dt⟩, _⟩ := I.list h1
    obtain ⟨as, ra⟩ := I.readsA h2 rs
    exact ⟨_, .list e c dt (by simpa using ra)⟩
  | _, _, _, .tup h1 h2, r => by
    cases r
    obtain ⟨its, rs, ⟨o, e, c, n, dt⟩, _⟩ := I.tuple h1
    obtain ⟨as, ra⟩ := I.readsA h2 rs
    exact ⟨_, .tuple e c dt (by simpa using ra)⟩
theorem Inv.readsA (I : Inv X pins σ H s) : ∀ {vs : List V} {ds : List PyData} {us : List Value}, ShwA X.K H vs ds -> Vals vs us -> ∃ as, ReadsAll s.heap us ds as
  | _, _, _, .nil, r => by cases r; exact ⟨_, .nil⟩
  | _, _, _, .cons h1 h2, r => by
    cases r with
    | cons r1 r2 =>
      obtain ⟨as, ra⟩ := I.reads h1 r1
      obtain ⟨bs, rb⟩ := I.readsA h2 r2
      exact ⟨_, .cons ra rb⟩
end
end
section
variable {X : Cx} {pins : List (Addr × Obj)} {σ : St} {H : Hp} {s : Shared} {te : TE} {e : Expr} {pos : Pos} {k : Nat}
def tFmt (te : TE) : TE := fun σ H Q => te σ H fun v H1 => (∃ x, v = .str x /\ x.length <= sizeLine /\ Q (.str x) H1) \/ (∃ i : Int, v = .int i /\ i.natAbs.log2 < 1920 /\ Q (.str (toString i)) H1)
theorem pe_fmt (he : PE X e te) : PE X (.FormattedValue e (-1) none pos) (tFmt te) := fun pins s σ H Q I h =>
  wpAny_FormattedValue_plain (thn (he pins s σ H _ I h) fun u s1 ⟨v, H1, I1, r, q⟩ => by
    rcases q with ⟨x, rfl, hx, q⟩ | ⟨i, rfl, hi, q⟩
    · obtain ⟨t, rfl⟩ := r
      exact wpAny_formatField_str ⟨.str x, H1, I1, ⟨_, rfl⟩, q⟩ ⟨.str x, H1, I1.tok _, ⟨_, rfl⟩, q⟩ hx
    · obtain ⟨t, rfl⟩ := r
      exact wpAny_formatField_int hi ⟨.str _, H1, I1.tok _, ⟨_, rfl⟩, q⟩)
def tRep (K : PySem.W.Frag) (te : TE) : TE := fun σ H Q => te σ H fun v H1 => ∃ d : PyData, Shw K H1 v d /\ d.showable = true /\ d.hasDict = false /\ d.depth <= 64 /\ d.shown.length <= sizeLine /\ Q (.str d.shown) H1
theorem pe_rep (hr : Room k X.A) (he : PE X e te) : PE X (.FormattedValue e 114 none pos) (tRep X.K te) := fun pins s σ H Q I h =>
  wpAny_FormattedValue_repr (thn (he pins s σ H _ I h) fun u s1 ⟨v, H1, I1, r, d, hw, h1, h2, h3, h4, q⟩ => by
    have fin : ∀ (h' : Heap) (t tk : Nat), (∀ b o, s1.heap.get? b = some o -> h'.get? b = some o) -> wpAny (model X.prog X.w) X.A (formatField (.str d.shown t) Str.empty) (EP X pins σ Q) X.xe { s1 with heap := h', toks := tk } := fun h' t tk kp =>
      have I2 : ∀ tk, Inv X pins σ H1 { s1 with heap := h', toks := tk } := fun tk => I1.un (t' := tk) (Un.kept fun b o e => kp b o e) (fun a o e => (I1.hok a o e).stay (fun b u _ q => kp b u q) (fun _ q => q) fun _ _ q => q)
      wpAny_formatField_str ⟨.str _, H1, I2 _, ⟨_, rfl⟩, q⟩ ⟨.str _, H1, I2 _, ⟨_, rfl⟩, q⟩ h4
    have hu := hr.units
    cases hw with
    | non => cases r; exact pyReprObj_none (fin _ _ _ fun _ _ e => e)
    | bl b => cases r; exact pyReprObj_bool (fin _ _ _ fun _ _ e => e)
    | int i => obtain ⟨t, rfl⟩ := r; exact pyReprObj_int (by simpa [PyData.showable] using h1) (fin _ _ _ fun _ _ e => e)
    | str x => obtain ⟨t, rfl⟩ := r; exact pyReprObj_str (fin _ _ _ fun _ _ e => e) h4
    | lst a1 a2 =>
      obtain ⟨as, rd⟩ := I1.reads (.lst a1 a2) r
      cases r
      exact pyReprObj_of_reads rd h1 (PyData.noDict_hsm h2) hr.gd (by omega) (fun _ _ e => e) (fun h' u tk kp => fin h' u tk kp) h4
    | tup a1 a2 =>
      obtain ⟨as, rd⟩ := I1.reads (.tup a1 a2) r
      cases r
      exact pyReprObj_of_reads rd h1 (PyData.noDict_hsm h2) hr.gd (by omega) (fun _ _ e => e) (fun h' u tk kp => fin h' u tk kp) h4)
def tJoins : List TE -> Str -> TE
  | [], acc => fun _ H Q => Q (.str acc) H
  | t :: ts, acc => fun σ H Q => t σ H fun v H1 => ∃ y, v = .str y /\ (acc ++ y).length <= sizeLine /\ tJoins ts (acc ++ y) σ H1 Q
structure QJ (X : Cx) (es : List Expr) (ts : List TE) : Prop where
  h : ∀ (acc : Str) (pins : List (Addr × Obj)) (s : Shared) (σ : St) (H : Hp) (Q : VK), acc.length <= sizeLine -> Inv X pins σ H s -> tJoins ts acc σ H Q -> Joins (model X.prog X.w) X.A X.xe (evalEach es X.env) acc (fun out s1 => out.length <= sizeLine /\ EP X pins σ Q (.str out s1.toks) { s1 with toks := s1.toks + 1 }) s
theorem qj_nil : QJ X [] [] := ⟨fun acc pins s σ H Q ha I h => ⟨ha, .str acc, H, I.tok _, ⟨_, rfl⟩, h⟩⟩
theorem qj_cons {es : List Expr} {ts : List TE} (he : QE X e te) (hr : QJ X es ts) : QJ X (e :: es) (te :: ts) := ⟨fun acc pins s σ H Q ha I h => by
  show wpAny _ _ (eval e X.env) _ _ _
  refine thn (he.h pins s σ H _ I h) fun u s1 ⟨v, H1, I1, r, y, ev, hy, q⟩ => ?_
  subst ev
  obtain ⟨t, rfl⟩ := r
  exact ⟨y, t, rfl, hy, hr.h _ _ _ _ _ _ hy I1 q⟩⟩
theorem qe_join {e2 : Expr} {es : List Expr} {ts : List TE} (h : QJ X (e :: e2 :: es) ts) : QE X (.JoinedStr (e :: e2 :: es) pos) (tJoins ts Str.empty) := ⟨fun pins s σ H Q I q => wpAny_JoinedStr (h.h _ _ _ _ _ _ (by decide) I q)⟩
theorem qe_fmt (he : QE X e te) : QE X (.FormattedValue e (-1) none pos) (tFmt te) := ⟨pe_fmt he.h⟩
theorem qe_rep (hr : Room k X.A) (he : QE X e te) : QE X (.FormattedValue e 114 none pos) (tRep X.K te) := ⟨pe_rep hr he.h⟩
end
end L2
namespace L2
open PySem PySem.Spec PyProof.Rows
section
variable {X : Cx}
theorem qs_raise {x : Str} {C : Addr} {e : Expr} {es : List Expr} {t : TA} {np cpos pos : Pos} {EX : Hp -> Prop} (hc : X.calm = true) (hg : Gl X x) (hm : X.mg x = some (.ref C)) (he : ExcC X.K C) (ha : QA X (e :: es) t)
    (hx : ∀ pins σ H s h' a vs, Inv X pins σ H s -> Heap.MadeExcOf s.heap h' a (.ref C) vs -> EX H -> X.xe (.ref a) { s with heap := h' })
    (hd : (x == ("__debug__" : Str)) = false := by decide) (hst : starEach (e :: es) X.env = (false, eval e X.env) :: starEach es X.env := by rfl) (hpl : (backTo cpos (starEach es X.env)).any (·.1) = false := by rfl) :
    QS X (.Raise (some (.Call (.Name x np) (e :: es) [] cpos)) none pos) (tRaise EX t) := ⟨ps_raise hc hg hm he ha.h hx hd hst hpl⟩
variable {k : Nat} {f Dc : Addr} {fd : FuncData} {ps : List Str} {sp : Sp} {x dn n : Str} {i : Nat} {p cpos epos np hpos pos : Pos} {e : Expr} {es : List Expr} {t : TA} {ts : TS} {b0 : Stmt} {suite : List Stmt}
end
end L2
namespace L2
open PySem PySem.Spec PyProof.Rows
section
variable {κ : Type} [DecidableEq κ]
end
section
variable {P : Program} {w : World} {H : Hp} {h : Heap} {a : Addr}
end
section
variable {X : Cx} {pins : List (Addr × Obj)} {σ : St} {H : Hp} {s : Shared} {a : Addr} {y v : V} {u r : Value} {o : Option V} {A : Around} {E : Value -> Shared -> Prop}
end
section
variable {X : Cx} {pins : List (Addr × Obj)} {σ : St} {H : Hp} {s : Shared} {a : Addr} {kvs : List (Key × V)} {k : Key} {u : Value} {A : Around} {E : Value -> Shared -> Prop}
end
section
variable {X : Cx} {o i e value : Expr} {pos pos' tpos : Pos} {td ty tv : TE}
end
section
variable {X : Cx} {pos : Pos}
end
section
variable {X : Cx} {pins : List (Addr × Obj)} {σ : St} {H : Hp} {s : Shared} {a : Addr} {y d : V} {u r : Value} {o : Option V} {A : Around} {E : Value -> Shared -> Prop}
end
section
variable {X : Cx} {o e f : Expr} {apos cpos : Pos} {td ty tx : TE}
end
section
variable {X : Cx} {pins : List (Addr × Obj)} {σ : St} {H : Hp} {s : Shared} {a : Addr} {kvs : List (Key × V)} {A : Around} {E : Value -> Shared -> Prop}
end
section
variable {X : Cx} {pins : List (Addr × Obj)} {σ : St} {H : Hp} {s : Shared} {a : Addr} {y : V} {u : Value} {A : Around} {E : Value -> Shared -> Prop}
end
end L2
namespace L2
open PySem PySem.Spec PyProof.Rows
section
variable {X : Cx}
end
section
variable {κ : Type} [DecidableEq κ]
end
end L2
namespace L2
open PySem PySem.Spec PyProof.Rows
def topKvs : List DictEntry -> List (Str × Value)
  | [] => []
  | e :: r => match e.key with
    | .str x _ => (x, e.val) :: topKvs r
    | _ => topKvs r
def TDict (K : PySem.W.Frag) (w : World) (a : Addr) (kvs : List (Str × Value)) : Prop :=
  ∃ (es : List DictEntry) (n : Nat), K.lookup a = some ⟨.type "dict", none, .dict es.toArray n, #[]⟩ /\ PySem.W.KeysLit w.params es /\ topKvs es = kvs
def valT (kvs : List (Str × Value)) (x : Str) : Option Value := (kvs.find? fun p => p.1 == x).map (·.2)
theorem find_top : ∀ (es : List DictEntry) (x : Str), (es.find? fun e => Value.isStrOf x e.key).map (·.val) = valT (topKvs es) x
  | [], _ => rfl
  | e :: r, x => by
    unfold topKvs
    rw [List.find?_cons]
    cases hk : e.key with
    | str y t =>
      dsimp only
      unfold valT
      rw [List.find?_cons]
      show Option.map _ (match (y == x) with | true => some e | false => _) = _
      cases y == x
      · exact find_top r x
      · rfl
    | _ => exact find_top r x
theorem TDict.map {K : PySem.W.Frag} {w : World} {a : Addr} {kvs : List (Str × Value)} {prog : Program} {h : Heap} (d : TDict K w a kvs) (X : K.In h) : h.MapOf (strKind prog w) a (fun k => valT kvs k) := by
  obtain ⟨es, n, hl, hk, rfl⟩ := d
  have m := PySem.W.mapOf_K (prog := prog) X hl hk
  have e : (fun k => findBy Value.isStrOf es.toArray k) = fun k => valT (topKvs es) k := funext fun x => by
    unfold findBy
    rw [List.find?_toArray]
    exact find_top es x
  rw [e] at m
  exact m
section
variable {X : Cx}
theorem op_inTop : OpR X (compareOp .In) (fun x y H Q => ∃ z a kvs, x = .str z /\ y = .ref a /\ TDict X.K X.w a kvs /\ (a == sysModules) = false /\ Q (.bl (valT kvs z).isSome) H) := by
  intro pins s σ H x y v u Q I rx ry h
  obtain ⟨z, a, kvs, rfl, rfl, d, lo, q⟩ := h
  obtain ⟨t, rfl⟩ := rx
  cases ry
  exact wpAny_in_of (strKind_is X.prog X.w z t) lo (d.map I.kIn) ⟨.bl _, H, I.tok _, rfl, q⟩
end
end L2
namespace L2
open PySem PySem.Spec PyProof.Rows
def Its (x : Str) : It := ⟨fun i _ => i < x.cps.size, fun i H v H' => H' = H /\ ∃ c, x.cps[i]? = some c /\ v = .str ⟨#[c]⟩, fun i _ => x.cps.size <= i⟩
theorem turn_strA {P : Program} {w : World} {K : PySem.W.Frag} {tg : Expr} (x : Str) (t : Tok) (it : Addr) : Turn P w K tg (Its x) [it] it (fun i h => h.IsStrIter it "str_ascii_iterator" x t i) where
  mem := by simp
  obj := fun i h st b hb => by
    have e : b = it := by simpa using hb
    subst e
    obtain ⟨o, e, c, d⟩ := st
    exact ⟨o, e, fun v z => by rw [d] at z; cases z⟩
  keep := fun i h h' st k => let ⟨o, e, r⟩ := st; ⟨o, k it (by simp) o e, r⟩
  item := by
    intro X hP hw hK hc i pins s σ H E I hf st hg
    subst hP hw hK
    have hg : i < x.cps.size := hg
    obtain ⟨f0, f1, f2, f3, f4, f5⟩ := hf it (by simp)
    have hx : x.cps[i]? = some x.cps[i] := by simp [hg]
    refine wpAny_pyNext_ascii_item st (c := x.cps[i]) hx fun h' st' sb => ?_
    have I1 : ∀ tk, Inv X pins σ H { s with heap := h', toks := tk } := fun tk => I.turned (t' := tk) (fun b o hb e => (sb.2 b hb).trans e) f0 f1 f3 f4 f5
    obtain ⟨o, e, c, d⟩ := id st'
    exact ⟨_, rfl, go_of (s := { s with heap := h', toks := s.toks + 1 }) e c d (by decide) ⟨.str ⟨#[x.cps[i]]⟩, H, I1 _, ⟨_, rfl⟩, ⟨rfl, _, hx, rfl⟩, st', fun b hb => (hf b hb).1⟩⟩
  done := by
    intro X hP hw hK hc i pins s σ H E I hf st hg
    subst hP hw hK
    have hg : x.cps.size <= i := hg
    obtain ⟨f0, f1, f2, f3, f4, f5⟩ := hf it (by simp)
    exact wpAny_pyNext_ascii_end (I.ok.hd hc) st (by simp [hg]) fun h' eb => ⟨rfl, I.turned (t' := s.toks) (fun b o hb e => eb b o hb e) f0 f1 f3 f4 f5⟩
  self := fun _ _ _ _ _ st h => wpAny_pyIter_striter_ascii st h
theorem turn_strW {P : Program} {w : World} {K : PySem.W.Frag} {tg : Expr} (x : Str) (t : Tok) (it : Addr) : Turn P w K tg (Its x) [it] it (fun i h => h.IsStrIter it "str_iterator" x t i) where
  mem := by simp
  obj := fun i h st b hb => by
    have e : b = it := by simpa using hb
    subst e
    obtain ⟨o, e, c, d⟩ := st
    exact ⟨o, e, fun v z => by rw [d] at z; cases z⟩
  keep := fun i h h' st k => let ⟨o, e, r⟩ := st; ⟨o, k it (by simp) o e, r⟩
  item := by
    intro X hP hw hK hc i pins s σ H E I hf st hg
    subst hP hw hK
    have hg : i < x.cps.size := hg
    obtain ⟨f0, f1, f2, f3, f4, f5⟩ := hf it (by simp)
    have hx : x.cps[i]? = some x.cps[i] := by simp [hg]
    refine wpAny_pyNext_wide_item st (c := x.cps[i]) hx fun h' st' sb => ?_
    have I1 : ∀ tk, Inv X pins σ H { s with heap := h', toks := tk } := fun tk => I.turned (t' := tk) (fun b o hb e => (sb.2 b hb).trans e) f0 f1 f3 f4 f5
    obtain ⟨o, e, c, d⟩ := id st'
    exact ⟨_, rfl, go_of (s := { s with heap := h', toks := s.toks + 1 }) e c d (by decide) ⟨.str ⟨#[x.cps[i]]⟩, H, I1 _, ⟨_, rfl⟩, ⟨rfl, _, hx, rfl⟩, st', fun b hb => (hf b hb).1⟩⟩
  done := by
    intro X hP hw hK hc i pins s σ H E I hf st hg
    subst hP hw hK
    have hg : x.cps.size <= i := hg
    obtain ⟨f0, f1, f2, f3, f4, f5⟩ := hf it (by simp)
    exact wpAny_pyNext_wide_end (I.ok.hd hc) st (by simp [hg]) fun h' eb => ⟨rfl, I.turned (t' := s.toks) (fun b o hb e => eb b o hb e) f0 f1 f3 f4 f5⟩
  self := fun _ _ _ _ _ st h => wpAny_pyIter_striter_wide st h
section
variable {X : Cx} {tg : Expr}
def iStr (tl : TE) : TI := fun σ H R => tl σ H fun v H1 => ∃ x, v = .str x /\ R (Its x) H1
theorem pi_str {l : Expr} {tl : TE} (hl : PE X l tl) : PI X tg l (iStr tl) := by
  intro pins s σ H R I h
  refine thn (hl pins s σ H _ I h) fun v s1 ⟨v', H1, I1, r1, q1⟩ => ?_
  obtain ⟨x, e, q⟩ := q1
  subst e
  obtain ⟨t, rfl⟩ := r1
  have fp : ∀ b ∈ [s1.heap.objs.size], FpOk X pins H1 b := fun b hb => by
    have e : b = s1.heap.objs.size := by simpa using hb
    subst e
    exact I1.fpOk (Nat.le_refl _) (I1.hok.fresh (Nat.le_refl _))
  cases ha : x.cps.all (· < 128)
  · exact wpAny_pyIter_wide ha ⟨s1.heap.objs.size, [s1.heap.objs.size], _, _, H1, rfl, I1.kept (t' := s1.toks) fun b o e => Heap.get?_push_of_some _ e, turn_strW x t _, ⟨_, Heap.get?_push_size _ rfl, rfl, rfl⟩, fp, q⟩
  · exact wpAny_pyIter_ascii ha ⟨s1.heap.objs.size, [s1.heap.objs.size], _, _, H1, rfl, I1.kept (t' := s1.toks) fun b o e => Heap.get?_push_of_some _ e, turn_strA x t _, ⟨_, Heap.get?_push_size _ rfl, rfl, rfl⟩, fp, q⟩
theorem qi_str {l : Expr} {tl : TE} (hl : QE X l tl) : QI X tg l (iStr tl) := ⟨pi_str hl.h⟩
end
end L2
namespace L2
open PySem PySem.Spec PySem.Calls PyProof.Rows Builtin Builtin.Str
section
variable {X : Cx}
theorem all_range (bs : List Bool) : (List.range bs.length).all (fun i => bs[i]?.getD true) = bs.all id := by
  rw [Bool.eq_iff_iff, List.all_eq_true, List.all_eq_true]
  constructor
  · intro h b hb
    obtain ⟨i, hi, rfl⟩ := List.mem_iff_getElem.mp hb
    have := h i (List.mem_range.mpr hi)
    rw [List.getElem?_eq_getElem hi] at this
    exact this
  · intro h i hi
    have hi := List.mem_range.mp hi
    rw [List.getElem?_eq_getElem hi]
    exact h _ (List.getElem_mem hi)
theorem vals_bl {bs : List Bool} {its : List Value} (r : Vals (bs.map V.bl) its) {i : Nat} {v : Value} (h : its[i]? = some v) : v = .bool (bs[i]?.getD true) := by
  have hi : i < its.length := (List.getElem?_eq_some_iff.mp h).1
  have hl := r.length
  rw [List.length_map] at hl
  have hb : bs[i]? = some (bs[i]'(by omega)) := List.getElem?_eq_getElem (by omega)
  obtain ⟨u, e, ru⟩ := r.get (i := i) (x := V.bl (bs[i]'(by omega))) (by rw [List.getElem?_map, hb]; rfl)
  rw [h] at e
  cases e
  rw [hb]
  exact ru
theorem call_all (hc : X.calm = true) : CallR X (.builtin "all") (fun xs H Q => ∃ (p : Addr) (bs : List Bool), xs = [.ref p] /\ SqL X.K H p (bs.map V.bl) /\ Q (.bl (bs.all id)) H) := by
  intro pins s σ H xs us Q I r h
  obtain ⟨p, bs, rfl, hq, q⟩ := h
  obtain ⟨u, rfl, ru⟩ := vals1 r
  cases ru
  obtain ⟨its, rv, pl, _⟩ := I.list hq
  have hl := pl.isList
  have hpl : p ≠ s.heap.objs.size := by
    obtain ⟨o, h1, _⟩ := hl
    exact Nat.ne_of_lt (Heap.lt_size h1)
  have hlen := rv.length
  rw [List.length_map] at hlen
  refine call_all_walk (wpAny_pyIter_list hl ⟨s.heap.objs.size, _, _, _, _, _, fun i => bs[i]?.getD true, rfl, Walks.list (A := X.A.in1) (I.ok.hd hc) _ p hpl its.toArray, ⟨⟨_, Heap.get?_push_size _ rfl, rfl, rfl⟩, ?_⟩, ?_, fun h' tk hk => ⟨.bl _, H, I.kept (fun b o e => hk b o ?_ (Heap.get?_push_of_some _ e)), ?_, q⟩⟩)
  · exact hl.at fun o e => Heap.get?_push_of_some _ e
  · intro i v s' Q' E' hP hQ
    have e := vals_bl rv (i := i) (v := v) (by simpa using hP)
    subst e
    exact wpAny_truthy_bool hQ
  · intro z
    rw [List.mem_singleton.mp z] at e
    exact absurd (Heap.lt_size e) (Nat.lt_irrefl _)
  · show Value.bool _ = Value.bool _
    rw [List.size_toArray, <- hlen, all_range]
theorem comp_strM {x : Str} {ys : List V} {js : List Nat} {te : TE} {σ : St} {Q : VK} {D : Addr} {H1 : Hp} (hz : x.cps.size < sizeLine) (hlen : ys.length = x.cps.size) (hD : H1 D = none)
    (he : ∀ (i c : Nat) (y : V) (H : Hp), x.cps[i]? = some c -> ys[i]? = some y -> Same H1 H -> ∀ Q' : VK, (∀ H', Same H H' -> Q' y H') -> te (some (.str ⟨#[c]⟩) :: compS js σ) H Q')
    (hq : ∀ H', Same H1 H' -> H' D = some (.lst ys) -> Q (.ref D) H') : CompW (Its x) js tYes te σ Q D H1 := by
  refine ⟨fun i m acc H => m = x.cps.size - i /\ i <= x.cps.size /\ acc = ys.take i /\ Same H1 H /\ H D = some (.lst acc), ⟨x.cps.size, by simp, Nat.zero_le _, rfl, same_new hD _, upd_same⟩, ?_⟩
  rintro i m acc H ⟨hm, hi, e, s, d⟩
  refine ⟨d, by rw [e, List.length_take]; omega, ?_⟩
  by_cases hlt : i < x.cps.size
  · refine .inr ⟨hlt, fun v H' yl => ?_⟩
    obtain ⟨e', c, hc, rfl⟩ := yl
    subst e'
    unfold tYes
    dsimp only
    rw [if_pos rfl]
    obtain ⟨y, hy⟩ := some_of_lt (xs := ys) (i := i) (by omega)
    exact he i c y H' hc hy s _ fun H'' s' => cstep hlt hm (s' _ _ d) ⟨by rw [e, take_snoc hy], same_upd hD (s.trans s'), upd_same⟩
  · have e0 : i = x.cps.size := by omega
    subst e0
    refine .inl ⟨Nat.le_refl _, hq H s ?_⟩
    rw [d, e, List.take_of_length_le (by omega)]
end
end L2
namespace L2
open PySem PySem.Spec PySem.Calls PyProof.Rows Builtin Builtin.Tuple
section
variable {X : Cx}
end
end L2
namespace L2
open PySem PySem.Spec PyProof.Rows
section
variable {X : Cx} {pins : List (Addr × Obj)} {σ : St} {H : Hp} {s : Shared} {h' : Heap}
theorem Inv.turnedT {t' : Nat} {wr : List Addr} {T : Addr} {vs : List V} {its : List Value} (I : Inv X pins σ H s) (k : ∀ b o, b ∉ wr -> s.heap.get? b = some o -> h'.get? b = some o) (hf : ∀ b ∈ wr, FpOk X pins H b)
    (hT : s.heap.objs.size <= T) (hz : vs.length <= sizeLine) (hv : Vals vs its) (ht : IsTup h' T its.toArray) : Inv X pins σ (upd H T (.tup vs)) { s with heap := h', toks := t' } := by
  have hn : H T = none := I.hok.fresh hT
  have nw : ∀ b u, H b = some u -> b ∉ wr := fun b u e z => by
    have := (hf b z).1
    rw [this] at e
    cases e
  have nT : ∀ b o, s.heap.get? b = some o -> b ≠ T := fun b o e z => by
    subst z
    exact absurd (Nat.lt_of_lt_of_le (Heap.lt_size e) hT) (Nat.lt_irrefl _)
  refine I.step (H' := upd H T (.tup vs)) (g' := s.gens) (d' := s.drawn) (ch := wr) (fun b hb => ?_) (fun b o _ _ hc e _ => k b o hc e) (fun b o _ _ hc e _ => ⟨o.slots, k b o hc e⟩) (fun b o _ e n => by rw [upd_ne (nT b o e)]; exact n)
    (fun b o hc e => ⟨o, k b o hc e⟩) (fun b xs e => by rw [upd_ne (ne_of_none e hn)]; exact e) (fun b o u e => by rw [upd_ne (ne_of_none e hn)]; exact e) (fun b ps e => ⟨#[], by rw [upd_ne (ne_of_none e hn), e]; simp⟩) (fun m hm => ?_) (fun b u e => ?_) I.bare
  · obtain ⟨f0, f1, f2, f3, f4, f5⟩ := hf b hb
    exact ⟨f3, f1, f4, f5⟩
  · obtain ⟨o, es, ep, ho, r⟩ := hm
    exact ⟨o, es, ep, k _ o (fun z => (hf _ z).2.1 rfl) ho, r⟩
  · by_cases hb : b = T
    · subst hb
      rw [upd_same] at e
      cases e
      exact ⟨hz, its, hv, ht⟩
    · rw [upd_ne hb] at e
      refine (I.hok b u e).stay (fun c v hc q => k c v ?_ q) (fun c q => by rw [upd_ne (ne_of_none q hn)]; exact q) fun c xs q => by rw [upd_ne (ne_of_none q hn)]; exact q
      rcases hc with z | z
      · rw [z]; exact nw b u e
      · exact nw c _ z
theorem Inv.turnedL {t' : Nat} {wr : List Addr} (I : Inv X pins σ H s) (k : ∀ b o, b ∉ wr -> s.heap.get? b = some o -> h'.get? b = some o) (hf : ∀ b ∈ wr, FpOk X pins H b) : Inv X pins σ H { s with heap := h', toks := t' } := by
  have nw : ∀ b u, H b = some u -> b ∉ wr := fun b u e z => by
    have := (hf b z).1
    rw [this] at e
    cases e
  refine I.step (g' := s.gens) (d' := s.drawn) (ch := wr) (fun b hb => ?_) (fun b o _ _ hc e _ => k b o hc e) (fun b o _ _ hc e _ => ⟨o.slots, k b o hc e⟩) (fun _ _ _ _ n => n)
    (fun b o hc e => ⟨o, k b o hc e⟩) (fun _ _ e => e) (fun _ _ _ e => e) (fun b ps e => ⟨#[], by rw [e]; simp⟩) (fun m hm => ?_) (fun b u e => ?_) I.bare
  · obtain ⟨f0, f1, f2, f3, f4, f5⟩ := hf b hb
    exact ⟨f3, f1, f4, f5⟩
  · obtain ⟨o, es, ep, ho, r⟩ := hm
    exact ⟨o, es, ep, k _ o (fun z => (hf _ z).2.1 rfl) ho, r⟩
  · refine (I.hok b u e).stay (fun c v hc q => k c v ?_ q) (fun _ q => q) fun _ _ q => q
    rcases hc with z | z
    · rw [z]; exact nw b u e
    · exact nw c _ z
end
def ItW (n : Nat) (G : Hp -> Prop) (R : Nat -> List V -> Prop) : It :=
  ⟨fun i H => i < n /\ G H, fun i H x H' => ∃ T vs, x = .ref T /\ H T = none /\ R i vs /\ H' = upd H T (.tup vs), fun i H => i = n /\ G H⟩
theorem turn_wt {P : Program} {w : World} {K : PySem.W.Frag} {elts : List Expr} {k : Nat} {pos : Pos} {e : Addr} {fp own wr : List Addr} {n : Nat} {Pt : Nat -> Array Value -> Prop} {St : Nat -> Heap -> Prop} {Mid : Nat -> Addr -> Heap -> Prop}
    {G : Hp -> Prop} {R : Nat -> List V -> Prop} {tn : Nat -> Heap -> Prop} (W : ∀ A : Around, A.handled = none -> WalksT P w A e fp wr n Pt St Mid) (mem : e ∈ own) (sub : ∀ b ∈ wr, b ∈ own)
    (obj : ∀ i h, tn i h -> ∀ b ∈ own, ∃ o, h.get? b = some o /\ ∀ v, o.data ≠ .cell v)
    (keep : ∀ i h h', tn i h -> (∀ b ∈ own, ∀ o, h.get? b = some o -> h'.get? b = some o) -> tn i h')
    (st : ∀ (X : Cx), X.prog = P -> X.w = w -> X.K = K -> ∀ (i : Nat) (pins : List (Addr × Obj)) (s : Shared) (σ : L2.St) (H : Hp), Inv X pins σ H s -> tn i s.heap -> G H -> St i s.heap)
    (back : ∀ i h, St i h -> tn i h)
    (self : ∀ (A : Around) (i : Nat) (s : Shared) (Q : Value -> Shared -> Prop) (E : Value -> Shared -> Prop), tn i s.heap -> Q (.ref e) s -> wpAny (model P w) A (pyIter (.ref e)) Q E s)
    (hR : ∀ (X : Cx), X.prog = P -> X.w = w -> X.K = K -> ∀ (i : Nat) (pins : List (Addr × Obj)) (s : Shared) (σ : L2.St) (H : Hp) (vals : Array Value), Inv X pins σ H s -> G H -> St i s.heap -> Pt i vals -> ∃ vs, R i vs /\ vs.length <= sizeLine /\ Vals vs vals.toList) :
    Turn P w K (.Tuple elts k pos) (ItW n G R) own e tn where
  mem := mem
  obj := obj
  keep := keep
  item := by
    intro X hP hw hK hc i pins s σ H E I hf ht ⟨hi, hG⟩
    have hh := I.ok.hd hc
    have S := st X hP hw hK i pins s σ H I ht hG
    subst hP hw hK
    refine (W X.A hh).item i s _ _ hi S fun T vals h1 tk hv hT ht1 hm k1 => ?_
    refine ⟨_, rfl, (W X.A hh).go elts k pos i T _ _ _ hm fun h2 S2 k2 => ?_⟩
    obtain ⟨vs, r, z, rv⟩ := hR X rfl rfl rfl i pins s σ H vals I hG S hv
    have nT : T ∉ wr := (W X.A hh).apart i T _ hm
    have fw : ∀ b ∈ wr, FpOk X pins H b := fun b hb => hf b (sub b hb)
    have t2 : IsTup h2 T vals.toList.toArray := by
      obtain ⟨o, ho, c, m, d⟩ := ht1
      exact ⟨o, k2 T o nT ho, c, m, by rw [d]⟩
    refine ⟨.ref T, upd H T (.tup vs), I.turnedT (wr := wr) (fun b o hb q => k2 b o hb (k1 b o hb q)) fw hT z rv t2, rfl, ⟨T, vs, rfl, I.hok.fresh hT, r, rfl⟩, back _ _ S2, fun b hb => ?_⟩
    have f := (hf b hb).1
    obtain ⟨o, ho, _⟩ := obj i _ ht b hb
    have nb : b ≠ T := fun z => by
      subst z
      exact absurd (Nat.lt_of_lt_of_le (Heap.lt_size ho) hT) (Nat.lt_irrefl _)
    rw [upd_ne nb]
    exact f
  done := by
    intro X hP hw hK hc i pins s σ H E I hf ht ⟨hi, hG⟩
    have hh := I.ok.hd hc
    have S := st X hP hw hK i pins s σ H I ht hG
    subst hP hw hK hi
    exact (W X.A hh).done s _ _ S fun h1 tk k1 => ⟨rfl, I.turnedL (wr := wr) k1 fun b hb => hf b (sub b hb)⟩
  self := self
theorem for_wt {n : Nat} {G : Hp -> Prop} {R : Nat -> List V -> Prop} {g : TG} {tb : TS} {D : Ends} {σ : St} {H : Hp} (Pv : Nat -> St -> Hp -> Prop) (h0 : Pv 0 σ H) (hg : ∀ i σ H, i <= n -> Pv i σ H -> G H)
    (hs : ∀ i T vs σ H, i < n -> R i vs -> Pv i σ H -> H T = none -> g (.ref T) σ (upd H T (.tup vs)) fun σ2 H2 => tb { D with nx := Pv (i + 1), ct := Pv (i + 1), bk := D.nx } σ2 H2) (hd : ∀ σ H, Pv n σ H -> D.nx σ H) :
    ∃ W : Nat -> Nat -> St -> Hp -> Prop, (∃ m, W 0 m σ H) /\ ∀ i m σ H, W i m σ H ->
      ((ItW n G R).stop i H /\ D.nx σ H) \/ ((ItW n G R).go i H /\ ∃ N : St -> Hp -> Prop, (∀ σ' H', N σ' H' -> ∃ m', m' < m /\ W (i + 1) m' σ' H') /\ ∀ x H', (ItW n G R).yld i H x H' -> g x σ H' fun σ2 H2 => tb { D with nx := N, ct := N, bk := D.nx } σ2 H2) := by
  refine ⟨fun i m σ H => m = n - i /\ i <= n /\ Pv i σ H, ⟨n, by simp, Nat.zero_le _, h0⟩, ?_⟩
  rintro i m σ H ⟨rfl, hi, p⟩
  have q := hg i σ H hi p
  by_cases hlt : i < n
  · refine .inr ⟨⟨hlt, q⟩, Pv (i + 1), fun σ' H' p' => ⟨n - (i + 1), by omega, rfl, hlt, p'⟩, fun x H' y => ?_⟩
    obtain ⟨T, vs, rfl, hT, r, rfl⟩ := y
    exact hs i T vs σ H hlt r p hT
  · have e : i = n := by omega
    subst e
    exact .inl ⟨⟨rfl, q⟩, hd σ H p⟩
def rEnS (x : Str) : Nat -> List V -> Prop := fun i vs => ∃ c, x.cps[i]? = some c /\ vs = [.int i, .str ⟨#[c]⟩]
theorem turn_enumS {P : Program} {w : World} {K : PySem.W.Frag} {elts : List Expr} {k : Nat} {pos : Pos} (x : Str) (t : Tok) (e it : Addr) (ne : e ≠ it) :
    Turn P w K (.Tuple elts k pos) (ItW x.cps.size (fun _ => True) (rEnS x)) [e, it] e (fun i h => (∃ old, IsEnum h e it i old) /\ h.IsStrIter it (strIterType x) x t i) := by
  have D : ∀ A : Around, A.handled = none -> Draws P w A.in1 it [it] x.cps.size (fun i v => ∃ c u, x.cps[i]? = some c /\ v = .str ⟨#[c]⟩ u) (fun i h => h.IsStrIter it (strIterType x) x t i) := fun A hh => by
    unfold strIterType
    cases x.cps.all (· < 128)
    · exact Draws.strWide (A := A.in1) hh it x t
    · exact Draws.strAscii (A := A.in1) hh it x t
  refine turn_wt (fp := [e, it]) (wr := [e, it]) (fun A hh => WalksT.enumerateD (D A hh) e ne (by simpa using ne) (by simp)) (by simp) (fun b hb => hb) (fun i h ht b hb => ?_) (fun i h h' ht k => ?_) (fun X _ _ _ i pins s σ H I ht _ => ht) (fun i h S => S) (fun A i s Q E ht q => ?_) (fun X _ _ _ i pins s σ H vals I _ S hv => ?_)
  · obtain ⟨⟨old, he⟩, o, ho, c, d⟩ := ht
    rcases List.mem_cons.mp hb with z | z
    · rw [z]
      exact ⟨_, he, fun v z => by cases z⟩
    · rw [List.mem_singleton.mp z]
      exact ⟨o, ho, fun v z => by rw [d] at z; cases z⟩
  · obtain ⟨⟨old, he⟩, o, ho, r⟩ := ht
    exact ⟨⟨old, k e (by simp) _ he⟩, o, k it (by simp) o ho, r⟩
  · obtain ⟨⟨old, he⟩, _⟩ := ht
    exact wpAny_pyIter_enum he q
  · obtain ⟨u, v, ⟨c, tc, hc, rfl⟩, rfl⟩ := hv
    exact ⟨[.int i, .str ⟨#[c]⟩], ⟨c, hc, rfl⟩, (by show 2 <= sizeLine; decide), .cons ⟨_, rfl⟩ (.cons ⟨_, rfl⟩ .nil)⟩
section
variable {X : Cx} {elts : List Expr} {k : Nat} {tpos : Pos}
def iEnS (ta : TA) : TI := fun σ H R => ta σ H fun vs H1 => ∃ x, vs = [.str x] /\ R (ItW x.cps.size (fun _ => True) (rEnS x)) H1
theorem pi_enumS {a : Expr} {ta : TA} {p pos : Pos} (hg : Gl X "enumerate") (hm : X.mg "enumerate" = none) (ha : PA X [a] ta) (hs : starEach [a] X.env = [(false, eval a X.env)] := by rfl) : PI X (.Tuple elts k tpos) (.Call (.Name "enumerate" p) [a] [] pos) (iEnS ta) := by
  intro pins s σ H R I h
  refine Call_ (ld_blt I hg hm boot_enumerate (PyProof.Rows.callWith_type1 (thn (ha pos pins s σ H _ I h) fun us s1 ⟨vs, H1, I1, r1, q1⟩ => ?_) hs rfl))
  obtain ⟨x, e, q⟩ := q1
  subst e
  cases r1 with
  | cons r rr =>
    cases rr
    obtain ⟨t, rfl⟩ := r
    refine call_enumerate_str fun h' he hi hz kp => wpAny_pyIter_enum he ?_
    have I2 : Inv X pins σ H1 { s1 with heap := h' } := I1.kept (t' := s1.toks) kp
    refine ⟨s1.heap.objs.size + 1, [s1.heap.objs.size + 1, s1.heap.objs.size], _, _, H1, rfl, I2, turn_enumS x t _ _ (Nat.succ_ne_self _), ⟨⟨_, he⟩, hi⟩, fun b hb => ?_, q⟩
    have hb' : b = s1.heap.objs.size + 1 \/ b = s1.heap.objs.size := by simpa using hb
    rcases hb' with z | z <;> subst z
    · exact I1.fpOk (Nat.le_succ _) (I1.hok.fresh (Nat.le_succ _))
    · exact I1.fpOk (Nat.le_refl _) (I1.hok.fresh (Nat.le_refl _))
theorem qi_enumS {a : Expr} {ta : TA} {p pos : Pos} (hg : Gl X "enumerate") (hm : X.mg "enumerate" = none) (ha : QA X [a] ta) (hs : starEach [a] X.env = [(false, eval a X.env)] := by rfl) : QI X (.Tuple elts k tpos) (.Call (.Name "enumerate" p) [a] [] pos) (iEnS ta) := ⟨pi_enumS hg hm ha.h hs⟩
end
end L2
namespace L2
open PySem PySem.Spec PyProof.Rows
theorem ps_setC {X : Cx} {elt iter : Expr} {ifs : List Expr} {sc : Scope} {pos px py spos : Pos} {t y : Str} {ys : List Str} {js : List Nat} {wi : TI} {tc : TT} {te : TE} {g : TG} (hc : X.calm = true) (hck : compChk X.N X.env.scope sc t ys js = true)
    (hi : PI X (.Name t px) iter wi) (hf : ∀ cl C s H fp, PIf (X.comp sc cl C (t :: ys) s H fp) ifs tc) (he : ∀ cl C s H fp, PE (X.comp sc cl C (t :: ys) s H fp) elt te) (hg : PG X (.Name y py) g)
    (hsw : swapsWith (.ListComp elt [⟨.Name t px, iter, ifs, 0⟩] sc pos) (some (.Name y py)) spos.line X.env = pure true) (hs : ∀ x, foldedSetIterable iter X.env x = pure x := by intro _; rfl) :
    PS X (.Assign [.Name y py] (.ListComp elt [⟨.Name t px, iter, ifs, 0⟩] sc pos) spos) (tAsg (tComp wi js tc te) g) := by
  have ck := compOk_of hck
  intro pins s σ H D0 I h
  have hfr : ∀ x, (x, NameKind.free) ∈ sc.names -> ∃ c, X.env.cells.lookup x = some c := fun x hx => I.ok.has x (.inl (ck.fre _ hx rfl))
  obtain ⟨cl, hcl, cl1, cl2⟩ := clos_ok hfr
  rw [exec_Assign_Name_used _ _ _ _ hsw]
  refine wpAny_bind (wpAny_standAt (wpAny_bind ?_))
  show wpAny _ X.A (do let _ <- comprehension (.ListComp elt [⟨.Name t px, iter, ifs, 0⟩] sc pos) sc X.env _ (newList []) false (eval iter X.env) (some (assign (.Name y py) X.env))) _ _ s
  refine wpAny_bind (wpAny_mono (wpAny_comprehension_free (use := some (assign (.Name y py) X.env)) (Q := fun _ s' => SP X pins D0 .next s') rfl hs hcl ck.kind ck.loc (thn (hi pins s σ H _ I h) fun v s1 h1 => thn h1 fun itv s2 h2 => ?_)) (fun _ s' hq => wpAny_pure (wpAny_pure hq)) fun _ _ e => e)
  obtain ⟨it, fp, tn, J, H2, e, I2, T, st2, f2, hR⟩ := h2
  subst e
  refine wpAny_newObj_type (wpAny_newFunctionEnv ck.ncell (by intro y hy; simp at hy) (fun h1 hns hsb => ?_) ck.kind)
  dsimp only at hns hsb ⊢
  generalize hp : s2.heap.push { cls := .type "list", dict := none, data := .seq ([] : List Value).toArray } = hh at hns hsb ⊢
  have hC : hh.objs.size = s2.heap.objs.size + 1 := by rw [<- hp, Heap.size_push]
  have neD : ∀ {b : Addr}, b < s2.heap.objs.size -> b ≠ s2.heap.objs.size := fun hb => Nat.ne_of_lt hb
  have neC : ∀ {b : Addr}, b < s2.heap.objs.size -> b ≠ hh.objs.size := fun hb => by rw [hC]; exact Nat.ne_of_lt (Nat.lt_succ_of_lt hb)
  have hDC : s2.heap.objs.size ≠ hh.objs.size := by rw [hC]; exact Nat.ne_of_lt (Nat.lt_succ_self _)
  have hCle : s2.heap.objs.size <= hh.objs.size := by rw [hC]; exact Nat.le_succ _
  have old : ∀ b o, s2.heap.get? b = some o -> h1.get? b = some o := fun b o e => hsb.extBut b o (neC (Heap.lt_size e)) (Heap.get?_push_of_some _ (hp ▸ Heap.get?_push_of_some _ e))
  have hnew : h1.get? s2.heap.objs.size = some { cls := .type "list", dict := none, data := .seq ([] : List Value).toArray } := hsb.extBut _ _ hDC (Heap.get?_push_of_some _ (hp ▸ Heap.get?_push_size _ rfl))
  have fpH : ∀ b ∈ fp, ∃ o, s2.heap.get? b = some o := fun b hb => let ⟨o, e, _⟩ := T.obj 0 _ st2 b hb; ⟨o, e⟩
  have fpD : ∀ b ∈ fp, b ≠ s2.heap.objs.size := fun b hb => by obtain ⟨o, e⟩ := fpH b hb; exact neD (Heap.lt_size e)
  have fpC : ∀ b ∈ fp, b ≠ hh.objs.size := fun b hb => by obtain ⟨o, e⟩ := fpH b hb; exact neC (Heap.lt_size e)
  have fpS : ∀ b ∈ fp, b ∉ frs X.stack := fun b hb z => (List.mem_cons.mp (I2.stkSub b z)).elim (f2 b hb).2.1 (f2 b hb).2.2.1
  have hok' : (X.comp sc cl hh.objs.size (t :: ys) s2 H2 fp).Ok := by
    refine ⟨I2.ok.mod, ck.kind, I2.ok.glob, I2.ok.blt, hCle, fun x y c a b => I2.ok.inj x y c (cl1 x c a) (cl1 y c b), fun x hx => ?_, (fun x c z => nomatch z), I2.ok.hd, I2.ok.frames, .inl rfl, fun b hb => ⟨fpC b hb, fun x c a => (f2 b hb).2.2.2.2.1 x c (cl1 x c a)⟩,
      I2.bs, Nat.le_trans I2.ok.bsz I2.sz, fun b o e hb => ?_, fun b hb => fpS b hb, I2.stack, I2.stkFree⟩
    · have hx' : (sc.names.map fun (n, k) => if (k == NameKind.free && X.env.scope.kind == .function && X.env.kindOf n == some .cell) then (n, NameKind.cell) else (n, k)).lookup x = some .cell \/ (sc.names.map fun (n, k) => if (k == NameKind.free && X.env.scope.kind == .function && X.env.kindOf n == some .cell) then (n, NameKind.cell) else (n, k)).lookup x = some .free := hx
      rcases hx' with z | z
      · rcases relabel_inv z with q | ⟨_, q⟩
        · exact absurd rfl (ck.ncell _ (PySem.mem_of_lookup q))
        · exact cl2 x (PySem.mem_of_lookup q)
      · rcases relabel_inv z with q | ⟨q, _⟩
        · exact cl2 x (PySem.mem_of_lookup q)
        · cases q
    · rcases (f2 b hb).2.2.2.1 with z | z
      · exact I2.ok.noex b o e z
      · exact absurd (Nat.lt_of_lt_of_le (Heap.lt_size e) (Nat.le_trans I2.ok.bsz z)) (Nat.lt_irrefl _)
  have Iin : ∀ tk : Nat, Inv (X.comp sc cl hh.objs.size (t :: ys) s2 H2 fp) [] (none :: compS js σ) (upd H2 s2.heap.objs.size (.lst [])) { s2 with heap := h1, toks := tk } := fun tk => by
    refine ⟨hok', rfl, I2.bare, Un.laid old (Nat.le_refl _) I2.fresh, ⟨_, hns, fun i x v e1 e2 e3 => ?_⟩, fun x c e => ?_, ?_, fun x c e => ?_, fun p hp => absurd (show p ∈ ([] : List (Addr × Obj)) from hp) (by simp), I2.hok.laid old (Nat.le_refl _) ⟨Nat.zero_le _, [], 0, .nil, hnew⟩, ?_⟩
    · cases i with
      | zero => simp at e2
      | succ k =>
        have e1' : ys[k]? = some x := e1
        have e2' : (compS js σ)[k]? = some (some v) := by simpa using e2
        unfold compS at e2'
        rw [List.getElem?_map] at e2'
        have q := congrArg (fun l => l[k]?) ck.ysj
        simp only [List.getElem?_map, e1', Option.map_some] at q
        cases hj : js[k]? with
        | none => rw [hj] at q; cases q
        | some j =>
          rw [hj] at q e2'
          have q1 : X.N[j]? = some x := (Option.some.inj q).symm
          have q2 : σ[j]? = some (some v) := by
            have z : (σ[j]?).join = some v := Option.some.inj e2'
            cases hz : σ[j]? with
            | none => rw [hz] at z; cases z
            | some y => rw [hz] at z; exact congrArg some z
          have hf' := ck.ysf x (List.mem_of_getElem? e1')
          have hcell := ck.fre _ (PySem.mem_of_lookup hf') rfl
          obtain ⟨m2, hn2, hl2⟩ := I2.loc
          obtain ⟨u, ru, lk⟩ := hl2 j x v q1 q2 (.inr (.inl hcell))
          refine ⟨u, ru, ?_⟩
          rcases lk with ⟨kk, _⟩ | ⟨_, c, ec, ic⟩
          · have kk' : X.env.scope.names.lookup x = some .local := kk
            have hcell' : X.env.scope.names.lookup x = some .cell := hcell
            rw [hcell'] at kk'; cases kk'
          · obtain ⟨c', ec'⟩ := cl2 x (PySem.mem_of_lookup hf')
            have : c' = c := Option.some.inj ((cl1 x c' ec').symm.trans ec)
            subst this
            refine .inr ⟨relabel_free hf', c', ec', ?_⟩
            obtain ⟨o, ho, hd⟩ := ic
            exact ⟨o, old _ o ho, hd⟩
    · obtain ⟨v, o, ho, hd⟩ := I2.cell x c (cl1 x c e)
      exact ⟨v, o, old _ o ho, hd⟩
    · show upd H2 s2.heap.objs.size _ hh.objs.size = none
      rw [upd_ne (Ne.symm hDC)]
      exact I2.hok.fresh hCle
    · obtain ⟨v, o, ho, hd⟩ := I2.cell x c (cl1 x c e)
      rw [upd_ne (neD (Heap.lt_size ho))]
      exact I2.freeC x c (cl1 x c e)
    · show (none :: compS js σ).length = (t :: ys).length
      have q := congrArg List.length ck.ysj
      simp only [List.length_map] at q
      unfold compS
      simp only [List.length_cons, List.length_map]
      omega
  have st1 : tn 0 h1 := T.keep _ _ _ st2 fun b hb o e => old b o e
  obtain ⟨W, ⟨m0, w0⟩, turn⟩ := hR s2.heap.objs.size I2.fresh
  have fpok : ∀ {H' : Hp}, (∀ b ∈ fp, H' b = none) -> ∀ b ∈ fp, FpOk (X.comp sc cl hh.objs.size (t :: ys) s2 H2 fp) [] H' b := fun hn b hb =>
    ⟨hn b hb, fpC b hb, fpS b hb, .inl hb, fun x c a => (f2 b hb).2.2.2.2.1 x c (cl1 x c a), fun p hp => absurd (show p ∈ ([] : List (Addr × Obj)) from hp) (by simp)⟩
  have ndN : (t :: ys).Nodup := ck.nd
  have loop : ∀ s3 : Shared, s3 = { s2 with heap := h1, toks := s2.toks + ([] : List (Str × Value)).length } ->
      codeAny (model X.prog X.w) X.A (.compLoop (.ListComp elt [⟨.Name t px, iter, ifs, 0⟩] sc pos) 0 (.ref it) (.ref s2.heap.objs.size) (compEnvC sc cl hh.objs.size X.env))
        (compPost (model X.prog X.w) X.A X.xe (some (assign (.Name y py) X.env)) (fun _ s' => SP X pins D0 .next s') (.ref s2.heap.objs.size) hh.objs.size) s3 := by
    rintro s3 rfl
    refine comp_turns (fun n s' => ∃ i acc H', Inv (X.comp sc cl hh.objs.size (t :: ys) s2 H2 fp) [] (none :: compS js σ) H' s' /\ tn i s'.heap /\ (∀ b ∈ fp, H' b = none) /\ W i n acc H') ?_ m0
      ⟨0, [], _, Iin _, st1, fun b hb => by rw [upd_ne (fpD b hb)]; exact (f2 b hb).1, w0⟩
    rintro n s3 ⟨i, acc, H3, I3, st3, fr3, w3⟩
    obtain ⟨hD, hz, alt⟩ := turn i n acc H3 w3
    rcases alt with ⟨stop, q⟩ | ⟨go, step⟩
    · refine thn (T.done (X.comp sc cl hh.objs.size (t :: ys) s2 H2 fp) rfl rfl rfl hc i [] s3 _ H3 _ I3 (fpok fr3) st3 stop) fun r s4 ⟨hr, I4⟩ => ?_
      subst hr
      obtain ⟨m, hn, _⟩ := id I4.loc
      have ltC : ∀ b o, s2.heap.get? b = some o -> b ≠ hh.objs.size := fun b o e => neC (Heap.lt_size e)
      have b4 : Un (frs X.stack) fp H2 H3 s2.heap s4.heap := I4.base
      have I5 : Inv X pins σ H3 s4 := I2.call' (s' := s4) (ch := fp) I4.os ⟨fun b o e n1 n2 n3 => b4.keep b o e n1 n2 n3, fun b o e n1 n2 n3 => b4.slot b o e n1 n2 n3, b4.free, fun b o e n1 => b4.there b o e n1, b4.tups, b4.frzs, b4.tbls⟩ (fun b ob e => I4.hok b ob e) I4.bare
        (fun b hb => ⟨(f2 b hb).2.2.2.1, (f2 b hb).2.1, (f2 b hb).2.2.2.2.1, (f2 b hb).2.2.2.2.2⟩)
      have fC : FpOk X pins H3 hh.objs.size := I2.fpOk hCle I4.free
      obtain ⟨oC, es, ep, hoC, dC, rC⟩ := id hn
      have I6 : Inv X (pins ++ [(hh.objs.size, oC)]) σ H3 s4 := I5.pins_of fun p hp => (List.mem_append.mp hp).elim (fun z => I5.pin p (List.mem_append_right _ z)) fun z => by
        rw [List.mem_singleton.mp z]
        exact ⟨hoC, fC.1, fC.2.1, fC.2.2.1, fun v z => by rw [dC] at z; cases z⟩
      show wpAny _ X.A (assign (.Name y py) X.env (.ref s2.heap.objs.size)) _ _ s4
      refine thn (hg _ s4 σ H3 (.ref s2.heap.objs.size) _ _ I6 rfl q) fun _ s7 ⟨σ7, H7, I7, q7⟩ => ?_
      obtain ⟨p1, p2, p3, p4, p5⟩ := I7.pin (hh.objs.size, oC) (List.mem_append_right _ (List.mem_append_right _ (List.mem_singleton.mpr rfl)))
      refine ⟨m, ⟨oC, es, ep, p1, dC, rC⟩, fun h' sb => ⟨σ7, H7, ?_, q7⟩⟩
      exact I7.unpinned.turned (t' := s7.toks) (fun b o hb e => (sb.2 b hb).trans e) p2 p3 fC.2.2.2.1 fC.2.2.2.2.1 fC.2.2.2.2.2
    · refine thn (T.item (X.comp sc cl hh.objs.size (t :: ys) s2 H2 fp) rfl rfl rfl hc i [] s3 _ H3 _ I3 (fpok fr3) st3 go) fun r s4 ⟨u, hr, h4⟩ => ?_
      subst hr
      refine thn h4 fun _ s5 ⟨x, H5, I5, r5, y5, st5, fr5⟩ => ?_
      have I5' := I5.pinned (fpok fr5) (T.obj _ _ st5)
      refine wpAny_assign_Name (store_ok (i := 0) I5' ndN rfl (.inl (lookup_relabel_local ck.tl)) r5 (fun s6 I6 => ?_) (.inr (lookup_relabel_local ck.tl)))
      have again : ∀ {H7 : Hp} {s7 : Shared} {m' : Nat} {acc' : List V}, Inv (X.comp sc cl hh.objs.size (t :: ys) s2 H2 fp) ([] ++ pinsAt fp s5.heap) (some x :: compS js σ) H7 s7 -> m' < n -> W (i + 1) m' acc' H7 ->
          ∃ m, m < n /\ ∃ i acc H', Inv (X.comp sc cl hh.objs.size (t :: ys) s2 H2 fp) [] (none :: compS js σ) H' s7 /\ tn i s7.heap /\ (∀ b ∈ fp, H' b = none) /\ W i m acc H' := fun {H7 s7 m' acc'} I7 hm w7 => by
        refine ⟨m', hm, i + 1, acc', H7, (I7.unpinned).weak rfl (fun k v e => ?_), T.keep _ _ _ st5 fun b hb o e => (I7.pin (b, o) (List.mem_append_right _ (List.mem_append_right _ (mem_pinsAt hb e)))).1, fun b hb => ?_, w7⟩
        · cases k with
          | zero => simp at e
          | succ k => simpa using e
        · obtain ⟨o, e, d⟩ := T.obj _ _ st5 b hb
          exact (I7.pin (b, o) (List.mem_append_right _ (List.mem_append_right _ (mem_pinsAt hb e)))).2.1
      refine thn (hf _ _ _ _ _ _ s6 _ H5 _ I6 (step x H5 y5)) fun ok s7 ⟨H7, I7, q7⟩ => ?_
      cases ok with
      | false =>
        obtain ⟨m', hm, w7⟩ := q7
        exact again I7 hm w7
      | true =>
        refine thn (he _ _ _ _ _ _ s7 _ H7 _ I7 q7) fun uy s8 ⟨y, H8, I8, r8, hD8, m', hm, w8⟩ => ?_
        refine thn (mt_append (X := X.comp sc cl hh.objs.size (t :: ys) s2 H2 fp) _ s8 _ H8 (.ref s2.heap.objs.size) [y] (.ref s2.heap.objs.size) [uy] (fun _ H9 => W (i + 1) m' (acc ++ [y]) H9) I8 rfl (.cons r8 .nil) ⟨_, acc, y, rfl, rfl, hD8, hz, w8⟩) fun _ s9 ⟨_, H9, I9, _, q9⟩ => ?_
        exact again I9 hm q9
  exact codeAny_compStart_list (loop _ rfl) (T.self _ 0 _ _ _ st1 (loop _ rfl))
theorem qs_setC {X : Cx} {elt iter : Expr} {ifs : List Expr} {sc : Scope} {pos px py spos : Pos} {t y : Str} {ys : List Str} {js : List Nat} {wi : TI} {tc : TT} {te : TE} {g : TG} (hc : X.calm = true) (hck : compChk X.N X.env.scope sc t ys js = true)
    (hi : QI X (.Name t px) iter wi) (hf : ∀ cl C s H fp, QIf (X.comp sc cl C (t :: ys) s H fp) ifs tc) (he : ∀ cl C s H fp, QE (X.comp sc cl C (t :: ys) s H fp) elt te) (hg : QG X (.Name y py) g)
    (hsw : swapsWith (.ListComp elt [⟨.Name t px, iter, ifs, 0⟩] sc pos) (some (.Name y py)) spos.line X.env = pure true) (hs : ∀ x, foldedSetIterable iter X.env x = pure x := by intro _; rfl) :
    QS X (.Assign [.Name y py] (.ListComp elt [⟨.Name t px, iter, ifs, 0⟩] sc pos) spos) (tAsg (tComp wi js tc te) g) := ⟨ps_setC hc hck hi.h (fun cl C s H fp => (hf cl C s H fp).h) (fun cl C s H fp => (he cl C s H fp).h) hg.h hsw hs⟩
end L2
namespace L2
open PySem PySem.Spec PyProof.Rows
def compChkT (N : List Str) (osc sc : Scope) (ts : List Str) (ys : List Str) (js : List Nat) : Bool :=
  sc.kind == .function && sc.names.all (fun y => y.2 != .cell) && sc.names.all (fun y => y.2 != .local || sc.names.lookup y.1 == some .local) &&
  sc.names.all (fun y => y.2 != .free || osc.names.lookup y.1 == some .cell) && (ys.map some == js.map fun j => N[j]?) &&
  ys.all (fun y => sc.names.lookup y == some .free)
structure CompOkT (N : List Str) (osc sc : Scope) (ys : List Str) (js : List Nat) : Prop where
  kind : sc.kind = .function
  ncell : ∀ y ∈ sc.names, y.2 ≠ .cell
  loc : ∀ y ∈ sc.names, y.2 = .local -> sc.names.lookup y.1 = some .local
  fre : ∀ y ∈ sc.names, y.2 = .free -> osc.names.lookup y.1 = some .cell
  ysj : ys.map some = js.map fun j => N[j]?
  ysf : ∀ y ∈ ys, sc.names.lookup y = some .free
theorem compOkT_of {N : List Str} {osc sc : Scope} {ts ys : List Str} {js : List Nat} (h : compChkT N osc sc ts ys js = true) : CompOkT N osc sc ys js := by
  unfold compChkT at h
  simp only [Bool.and_eq_true, List.all_eq_true, decide_eq_true_eq, Bool.or_eq_true, bne_iff_ne, beq_iff_eq] at h
  obtain ⟨⟨⟨⟨⟨a, b⟩, c⟩, d⟩, e⟩, f⟩ := h
  exact ⟨a, fun y hy => b y hy, fun y hy z => (c y hy).resolve_left fun q => q z, fun y hy z => (d y hy).resolve_left fun q => q z, e, f⟩
def CompWT (J : It) (g : TG) (n : Nat) (js : List Nat) (tc : TT) (te : TE) (σ : St) (Q : VK) (D : Addr) (H1 : Hp) : Prop := ∃ W : Nat -> Nat -> List V -> Hp -> Prop, (∃ m, W 0 m [] (upd H1 D (.lst []))) /\
  ∀ i m acc H, W i m acc H -> H D = some (.lst acc) /\ acc.length < sizeLine /\ ((J.stop i H /\ Q (.ref D) H) \/ (J.go i H /\ ∀ x H', J.yld i H x H' -> g x (List.replicate n none ++ compS js σ) H' fun σ6 H6 => ∃ us : List (Option V), us.length = n /\ σ6 = us ++ compS js σ /\ tc σ6 H6 fun c H3 =>
    if c = true then te σ6 H3 fun y H4 => H4 D = some (.lst acc) /\ ∃ m', m' < m /\ W (i + 1) m' (acc ++ [y]) (upd H4 D (.lst (acc ++ [y]))) else ∃ m', m' < m /\ W (i + 1) m' acc H3))
def tCompT (wi : TI) (g : TG) (n : Nat) (js : List Nat) (tc : TT) (te : TE) : TE := fun σ H Q => wi σ H fun J H1 => ∀ D, H1 D = none -> CompWT J g n js tc te σ Q D H1
theorem pe_compT {X : Cx} {elt iter tg : Expr} {ifs : List Expr} {sc : Scope} {pos : Pos} {ts : List Str} {ys : List Str} {js : List Nat} {wi : TI} {g : TG} {tc : TT} {te : TE} (hc : X.calm = true) (hck : compChkT X.N X.env.scope sc ts ys js = true)
    (hi : PI X tg iter wi) (hg : ∀ cl C s H fp, PG (X.comp sc cl C (ts ++ ys) s H fp) tg g) (hf : ∀ cl C s H fp, PIf (X.comp sc cl C (ts ++ ys) s H fp) ifs tc) (he : ∀ cl C s H fp, PE (X.comp sc cl C (ts ++ ys) s H fp) elt te)
    (hs : ∀ x, foldedSetIterable iter X.env x = pure x := by intro _; rfl) : PE X (.ListComp elt [⟨tg, iter, ifs, 0⟩] sc pos) (tCompT wi g ts.length js tc te) := by
  have ck := compOkT_of hck
  intro pins s σ H Q I h
  have hfr : ∀ x, (x, NameKind.free) ∈ sc.names -> ∃ c, X.env.cells.lookup x = some c := fun x hx => I.ok.has x (.inl (ck.fre _ hx rfl))
  obtain ⟨cl, hcl, cl1, cl2⟩ := clos_ok hfr
  rw [eval_ListComp]
  refine wpAny_comprehension_free (use := none) rfl hs hcl ck.kind ck.loc (thn (hi pins s σ H _ I h) fun v s1 h1 => thn h1 fun itv s2 h2 => ?_)
  obtain ⟨it, fp, tn, J, H2, e, I2, T, st2, f2, hR⟩ := h2
  subst e
  refine wpAny_newObj_type (wpAny_newFunctionEnv ck.ncell (by intro y hy; simp at hy) (fun h1 hns hsb => ?_) ck.kind)
  dsimp only at hns hsb ⊢
  generalize hp : s2.heap.push { cls := .type "list", dict := none, data := .seq ([] : List Value).toArray } = hh at hns hsb ⊢
  have hC : hh.objs.size = s2.heap.objs.size + 1 := by rw [<- hp, Heap.size_push]
  have neD : ∀ {b : Addr}, b < s2.heap.objs.size -> b ≠ s2.heap.objs.size := fun hb => Nat.ne_of_lt hb
  have neC : ∀ {b : Addr}, b < s2.heap.objs.size -> b ≠ hh.objs.size := fun hb => by rw [hC]; exact Nat.ne_of_lt (Nat.lt_succ_of_lt hb)
  have hDC : s2.heap.objs.size ≠ hh.objs.size := by rw [hC]; exact Nat.ne_of_lt (Nat.lt_succ_self _)
  have hCle : s2.heap.objs.size <= hh.objs.size := by rw [hC]; exact Nat.le_succ _
  have old : ∀ b o, s2.heap.get? b = some o -> h1.get? b = some o := fun b o e => hsb.extBut b o (neC (Heap.lt_size e)) (Heap.get?_push_of_some _ (hp ▸ Heap.get?_push_of_some _ e))
  have hnew : h1.get? s2.heap.objs.size = some { cls := .type "list", dict := none, data := .seq ([] : List Value).toArray } := hsb.extBut _ _ hDC (Heap.get?_push_of_some _ (hp ▸ Heap.get?_push_size _ rfl))
  have fpH : ∀ b ∈ fp, ∃ o, s2.heap.get? b = some o := fun b hb => let ⟨o, e, _⟩ := T.obj 0 _ st2 b hb; ⟨o, e⟩
  have fpD : ∀ b ∈ fp, b ≠ s2.heap.objs.size := fun b hb => by obtain ⟨o, e⟩ := fpH b hb; exact neD (Heap.lt_size e)
  have fpC : ∀ b ∈ fp, b ≠ hh.objs.size := fun b hb => by obtain ⟨o, e⟩ := fpH b hb; exact neC (Heap.lt_size e)
  have fpS : ∀ b ∈ fp, b ∉ frs X.stack := fun b hb z => (List.mem_cons.mp (I2.stkSub b z)).elim (f2 b hb).2.1 (f2 b hb).2.2.1
  have hok' : (X.comp sc cl hh.objs.size (ts ++ ys) s2 H2 fp).Ok := by
    refine ⟨I2.ok.mod, ck.kind, I2.ok.glob, I2.ok.blt, hCle, fun x y c a b => I2.ok.inj x y c (cl1 x c a) (cl1 y c b), fun x hx => ?_, (fun x c z => nomatch z), I2.ok.hd, I2.ok.frames, .inl rfl, fun b hb => ⟨fpC b hb, fun x c a => (f2 b hb).2.2.2.2.1 x c (cl1 x c a)⟩,
      I2.bs, Nat.le_trans I2.ok.bsz I2.sz, fun b o e hb => ?_, fun b hb => fpS b hb, I2.stack, I2.stkFree⟩
    · have hx' : (sc.names.map fun (n, k) => if (k == NameKind.free && X.env.scope.kind == .function && X.env.kindOf n == some .cell) then (n, NameKind.cell) else (n, k)).lookup x = some .cell \/ (sc.names.map fun (n, k) => if (k == NameKind.free && X.env.scope.kind == .function && X.env.kindOf n == some .cell) then (n, NameKind.cell) else (n, k)).lookup x = some .free := hx
      rcases hx' with z | z
      · rcases relabel_inv z with q | ⟨_, q⟩
        · exact absurd rfl (ck.ncell _ (PySem.mem_of_lookup q))
        · exact cl2 x (PySem.mem_of_lookup q)
      · rcases relabel_inv z with q | ⟨q, _⟩
        · exact cl2 x (PySem.mem_of_lookup q)
        · cases q
    · rcases (f2 b hb).2.2.2.1 with z | z
      · exact I2.ok.noex b o e z
      · exact absurd (Nat.lt_of_lt_of_le (Heap.lt_size e) (Nat.le_trans I2.ok.bsz z)) (Nat.lt_irrefl _)
  have Iin : ∀ tk : Nat, Inv (X.comp sc cl hh.objs.size (ts ++ ys) s2 H2 fp) [] (List.replicate ts.length none ++ compS js σ) (upd H2 s2.heap.objs.size (.lst [])) { s2 with heap := h1, toks := tk } := fun tk => by
    refine ⟨hok', rfl, I2.bare, Un.laid old (Nat.le_refl _) I2.fresh, ⟨_, hns, fun i x v e1 e2 e3 => ?_⟩, fun x c e => ?_, ?_, fun x c e => ?_, fun p hp => absurd (show p ∈ ([] : List (Addr × Obj)) from hp) (by simp), I2.hok.laid old (Nat.le_refl _) ⟨Nat.zero_le _, [], 0, .nil, hnew⟩, ?_⟩
    · by_cases hik : i < ts.length
      · rw [List.getElem?_append_left (by rw [List.length_replicate]; exact hik), List.getElem?_replicate, if_pos hik] at e2
        cases e2
      · obtain ⟨k, rfl⟩ : ∃ k, i = ts.length + k := ⟨i - ts.length, by omega⟩
        have e1' : ys[k]? = some x := by
          have : (ts ++ ys)[ts.length + k]? = some x := e1
          rw [List.getElem?_append_right (by omega)] at this
          rw [<- this]
          congr 1
          omega
        have e2' : (compS js σ)[k]? = some (some v) := by
          rw [List.getElem?_append_right (by rw [List.length_replicate]; omega), List.length_replicate] at e2
          rw [<- e2]
          congr 1
          omega
        unfold compS at e2'
        rw [List.getElem?_map] at e2'
        have q := congrArg (fun l => l[k]?) ck.ysj
        simp only [List.getElem?_map, e1', Option.map_some] at q
        cases hj : js[k]? with
        | none => rw [hj] at q; cases q
        | some j =>
          rw [hj] at q e2'
          have q1 : X.N[j]? = some x := (Option.some.inj q).symm
          have q2 : σ[j]? = some (some v) := by
            have z : (σ[j]?).join = some v := Option.some.inj e2'
            cases hz : σ[j]? with
            | none => rw [hz] at z; cases z
            | some y => rw [hz] at z; exact congrArg some z
          have hf' := ck.ysf x (List.mem_of_getElem? e1')
          have hcell := ck.fre _ (PySem.mem_of_lookup hf') rfl
          obtain ⟨m2, hn2, hl2⟩ := I2.loc
          obtain ⟨u, ru, lk⟩ := hl2 j x v q1 q2 (.inr (.inl hcell))
          refine ⟨u, ru, ?_⟩
          rcases lk with ⟨kk, _⟩ | ⟨_, c, ec, ic⟩
          · have kk' : X.env.scope.names.lookup x = some .local := kk
            have hcell' : X.env.scope.names.lookup x = some .cell := hcell
            rw [hcell'] at kk'; cases kk'
          · obtain ⟨c', ec'⟩ := cl2 x (PySem.mem_of_lookup hf')
            have : c' = c := Option.some.inj ((cl1 x c' ec').symm.trans ec)
            subst this
            refine .inr ⟨relabel_free hf', c', ec', ?_⟩
            obtain ⟨o, ho, hd⟩ := ic
            exact ⟨o, old _ o ho, hd⟩
    · obtain ⟨v, o, ho, hd⟩ := I2.cell x c (cl1 x c e)
      exact ⟨v, o, old _ o ho, hd⟩
    · show upd H2 s2.heap.objs.size _ hh.objs.size = none
      rw [upd_ne (Ne.symm hDC)]
      exact I2.hok.fresh hCle
    · obtain ⟨v, o, ho, hd⟩ := I2.cell x c (cl1 x c e)
      rw [upd_ne (neD (Heap.lt_size ho))]
      exact I2.freeC x c (cl1 x c e)
    · show (List.replicate ts.length none ++ compS js σ).length = (ts ++ ys).length
      have q := congrArg List.length ck.ysj
      simp only [List.length_map] at q
      unfold compS
      simp only [List.length_append, List.length_replicate, List.length_map]
      omega
  have st1 : tn 0 h1 := T.keep _ _ _ st2 fun b hb o e => old b o e
  obtain ⟨W, ⟨m0, w0⟩, turn⟩ := hR s2.heap.objs.size I2.fresh
  have fpok : ∀ {H' : Hp}, (∀ b ∈ fp, H' b = none) -> ∀ b ∈ fp, FpOk (X.comp sc cl hh.objs.size (ts ++ ys) s2 H2 fp) [] H' b := fun hn b hb =>
    ⟨hn b hb, fpC b hb, fpS b hb, .inl hb, fun x c a => (f2 b hb).2.2.2.2.1 x c (cl1 x c a), fun p hp => absurd (show p ∈ ([] : List (Addr × Obj)) from hp) (by simp)⟩
  have loop : ∀ s3 : Shared, s3 = { s2 with heap := h1, toks := s2.toks + ([] : List (Str × Value)).length } ->
      codeAny (model X.prog X.w) X.A (.compLoop (.ListComp elt [⟨tg, iter, ifs, 0⟩] sc pos) 0 (.ref it) (.ref s2.heap.objs.size) (compEnvC sc cl hh.objs.size X.env))
        (compPost (model X.prog X.w) X.A X.xe none (EP X pins σ Q) (.ref s2.heap.objs.size) hh.objs.size) s3 := by
    rintro s3 rfl
    refine comp_turns (fun n s' => ∃ i acc H', Inv (X.comp sc cl hh.objs.size (ts ++ ys) s2 H2 fp) [] (List.replicate ts.length none ++ compS js σ) H' s' /\ tn i s'.heap /\ (∀ b ∈ fp, H' b = none) /\ W i n acc H') ?_ m0
      ⟨0, [], _, Iin _, st1, fun b hb => by rw [upd_ne (fpD b hb)]; exact (f2 b hb).1, w0⟩
    rintro n s3 ⟨i, acc, H3, I3, st3, fr3, w3⟩
    obtain ⟨hD, hz, alt⟩ := turn i n acc H3 w3
    rcases alt with ⟨stop, q⟩ | ⟨go, step⟩
    · refine thn (T.done (X.comp sc cl hh.objs.size (ts ++ ys) s2 H2 fp) rfl rfl rfl hc i [] s3 _ H3 _ I3 (fpok fr3) st3 stop) fun r s4 ⟨hr, I4⟩ => ?_
      subst hr
      obtain ⟨m, hn, _⟩ := id I4.loc
      refine ⟨m, hn, fun h' sb => ⟨.ref s2.heap.objs.size, H3, ?_, rfl, q⟩⟩
      have ltC : ∀ b o, s2.heap.get? b = some o -> b ≠ hh.objs.size := fun b o e => neC (Heap.lt_size e)
      have b4 : Un (frs X.stack) fp H2 H3 s2.heap s4.heap := I4.base
      refine I2.call' (s' := { s4 with heap := h' }) (ch := fp) I4.os ⟨fun b o e n1 n2 n3 => (sb.2 b (ltC b o e)).trans (b4.keep b o e n1 n2 n3), fun b o e n1 n2 n3 => ?_, b4.free, fun b o e n1 => ?_, b4.tups, b4.frzs, b4.tbls⟩ (fun b ob e => ?_) I4.bare
        (fun b hb => ⟨(f2 b hb).2.2.2.1, (f2 b hb).2.1, (f2 b hb).2.2.2.2.1, (f2 b hb).2.2.2.2.2⟩)
      · obtain ⟨sl, e1⟩ := b4.slot b o e n1 n2 n3
        exact ⟨sl, (sb.2 b (ltC b o e)).trans e1⟩
      · obtain ⟨o', e1⟩ := b4.there b o e n1
        exact ⟨o', (sb.2 b (ltC b o e)).trans e1⟩
      · have hfree : H3 hh.objs.size = none := I4.free
        refine (I4.hok b ob e).stay (fun c w' hc' q' => (sb.2 c ?_).trans q') (fun _ q' => q') fun _ _ q' => q'
        rintro rfl
        rcases hc' with rfl | hc'
        · rw [hfree] at e; cases e
        · rw [hfree] at hc'; cases hc'
    · refine thn (T.item (X.comp sc cl hh.objs.size (ts ++ ys) s2 H2 fp) rfl rfl rfl hc i [] s3 _ H3 _ I3 (fpok fr3) st3 go) fun r s4 ⟨u, hr, h4⟩ => ?_
      subst hr
      refine thn h4 fun _ s5 ⟨x, H5, I5, r5, y5, st5, fr5⟩ => ?_
      have I5' := I5.pinned (fpok fr5) (T.obj _ _ st5)
      refine thn (hg _ _ _ _ _ _ s5 _ H5 x _ _ I5' r5 (step x H5 y5)) fun _ s6 ⟨σ6, H6, I6, us, hul, hus, q6⟩ => ?_
      subst hus
      have again : ∀ {H7 : Hp} {s7 : Shared} {m' : Nat} {acc' : List V}, Inv (X.comp sc cl hh.objs.size (ts ++ ys) s2 H2 fp) ([] ++ pinsAt fp s5.heap) (us ++ compS js σ) H7 s7 -> m' < n -> W (i + 1) m' acc' H7 ->
          ∃ m, m < n /\ ∃ i acc H', Inv (X.comp sc cl hh.objs.size (ts ++ ys) s2 H2 fp) [] (List.replicate ts.length none ++ compS js σ) H' s7 /\ tn i s7.heap /\ (∀ b ∈ fp, H' b = none) /\ W i m acc H' := fun {H7 s7 m' acc'} I7 hm w7 => by
        refine ⟨m', hm, i + 1, acc', H7, (I7.unpinned).weak (by rw [List.length_append, List.length_append, List.length_replicate, hul]) (fun k v e => ?_), T.keep _ _ _ st5 fun b hb o e => (I7.pin (b, o) (List.mem_append_right _ (List.mem_append_right _ (mem_pinsAt hb e)))).1, fun b hb => ?_, w7⟩
        · by_cases hk : k < ts.length
          · rw [List.getElem?_append_left (by rw [List.length_replicate]; exact hk), List.getElem?_replicate, if_pos hk] at e
            cases e
          · rw [List.getElem?_append_right (by rw [List.length_replicate]; omega), List.length_replicate] at e
            rw [List.getElem?_append_right (by omega), hul]
            exact e
        · obtain ⟨o, e, d⟩ := T.obj _ _ st5 b hb
          exact (I7.pin (b, o) (List.mem_append_right _ (List.mem_append_right _ (mem_pinsAt hb e)))).2.1
      refine thn (hf _ _ _ _ _ _ s6 _ H6 _ I6 q6) fun ok s7 ⟨H7, I7, q7⟩ => ?_
      cases ok with
      | false =>
        obtain ⟨m', hm, w7⟩ := q7
        exact again I7 hm w7
      | true =>
        refine thn (he _ _ _ _ _ _ s7 _ H7 _ I7 q7) fun uy s8 ⟨y, H8, I8, r8, hD8, m', hm, w8⟩ => ?_
        refine thn (mt_append (X := X.comp sc cl hh.objs.size (ts ++ ys) s2 H2 fp) _ s8 _ H8 (.ref s2.heap.objs.size) [y] (.ref s2.heap.objs.size) [uy] (fun _ H9 => W (i + 1) m' (acc ++ [y]) H9) I8 rfl (.cons r8 .nil) ⟨_, acc, y, rfl, rfl, hD8, hz, w8⟩) fun _ s9 ⟨_, H9, I9, _, q9⟩ => ?_
        exact again I9 hm q9
  exact codeAny_compStart_list (loop _ rfl) (T.self _ 0 _ _ _ st1 (loop _ rfl))
theorem qe_compT {X : Cx} {elt iter tg : Expr} {ifs : List Expr} {sc : Scope} {pos : Pos} {ts : List Str} {ys : List Str} {js : List Nat} {wi : TI} {g : TG} {tc : TT} {te : TE} (hc : X.calm = true) (hck : compChkT X.N X.env.scope sc ts ys js = true)
    (hi : QI X tg iter wi) (hg : ∀ cl C s H fp, QG (X.comp sc cl C (ts ++ ys) s H fp) tg g) (hf : ∀ cl C s H fp, QIf (X.comp sc cl C (ts ++ ys) s H fp) ifs tc) (he : ∀ cl C s H fp, QE (X.comp sc cl C (ts ++ ys) s H fp) elt te)
    (hs : ∀ x, foldedSetIterable iter X.env x = pure x := by intro _; rfl) : QE X (.ListComp elt [⟨tg, iter, ifs, 0⟩] sc pos) (tCompT wi g ts.length js tc te) :=
  ⟨pe_compT hc hck hi.h (fun cl C s H fp => (hg cl C s H fp).h) (fun cl C s H fp => (hf cl C s H fp).h) (fun cl C s H fp => (he cl C s H fp).h) hs⟩
section
variable {K : PySem.W.Frag} {a : Addr} {xs ys : List V} {js : List Nat} {g : TG} {n : Nat} {te : TE} {σ : St} {Q : VK} {D : Addr} {H1 : Hp}
theorem compT_lst (hz : xs.length < sizeLine) (hlen : ys.length = xs.length) (ha : SqL K H1 a xs) (hD : H1 D = none)
    (he : ∀ (i : Nat) (x y : V) (H : Hp), xs[i]? = some x -> ys[i]? = some y -> Same H1 H -> ∀ Q' : VK, (∀ H', Same H H' -> Q' y H') -> g x (List.replicate n none ++ compS js σ) H fun σ6 H6 => ∃ us : List (Option V), us.length = n /\ σ6 = us ++ compS js σ /\ te σ6 H6 Q')
    (hq : ∀ H', Same H1 H' -> H' D = some (.lst ys) -> Q (.ref D) H') : CompWT (Itl K a) g n js tYes te σ Q D H1 := by
  refine ⟨fun i m acc H => m = xs.length - i /\ i <= xs.length /\ acc = ys.take i /\ Same H1 H /\ H D = some (.lst acc), ⟨xs.length, by simp, Nat.zero_le _, rfl, same_new hD _, upd_same⟩, ?_⟩
  rintro i m acc H ⟨hm, hi, e, s, d⟩
  refine ⟨d, by rw [e, List.length_take]; omega, ?_⟩
  by_cases hlt : i < xs.length
  · refine .inr ⟨?_, fun x H' y => ?_⟩
    · obtain ⟨x, hx⟩ := some_of_lt hlt
      exact ⟨xs, x, Same.seq s ha, hx⟩
    · obtain ⟨rfl, hx⟩ := y
      have hx' := hx xs (Same.seq s ha)
      obtain ⟨y, hy⟩ := some_of_lt (xs := ys) (i := i) (by omega)
      refine he i x y H' hx' hy s _ fun H4 s4 => ⟨s4 _ _ d, xs.length - (i + 1), by omega, rfl, hlt, by rw [e, take_snoc hy], same_upd hD (s.trans s4), upd_same⟩
  · refine .inl ⟨⟨xs, Same.seq s ha, by omega⟩, hq H s ?_⟩
    rw [d, e, List.take_of_length_le (by omega)]
end
end L2
namespace L2
open PySem PySem.Spec PyProof.Rows
theorem lri_nolen : typeLookup (.type "list_reverseiterator") "__len__" = pure none := by rw [typeLookup_type, builtinLookup_eq_fast]; kernel_rfl
theorem lri_hint : typeLookup (.type "list_reverseiterator") "__length_hint__" = pure (some (.builtin "list_reverseiterator.__length_hint__")) := by rw [typeLookup_type, builtinLookup_eq_fast]; kernel_rfl
section
variable {prog : Program} {w : World} {A : Around} {E : Value -> Shared -> Prop} {s : Shared}
end
section
variable {X : Cx} {e : Expr} {te : TE} {p1 p2 q1 q2 : Pos}
theorem rev_items {vs : List Value} {acc : Array Value} (h : ItemsOf (fun i v => vs.toArray[vs.toArray.size - 1 - i]? = some v) acc vs.toArray.size) : acc.toList = vs.reverse := by
  obtain ⟨h1, h2⟩ := h
  have hz : vs.toArray.size = vs.length := by simp
  rw [hz] at h1 h2
  refine List.ext_getElem? fun i => ?_
  by_cases hi : i < vs.length
  · have e : acc.toList[i]? = some (acc[i]'(by omega)) := by simp [h1, hi]
    have e2 := h2 i (acc[i]'(by omega)) (by simp [h1, hi])
    rw [e, List.getElem?_reverse hi, <- e2]
    simp
  · rw [List.getElem?_eq_none (by simp [h1]; omega), List.getElem?_eq_none (by simp; omega)]
end
end L2
namespace TM
open PySem L2
inductive Tm where
  | num (n : Int)
  | text (z : Str)
  | row
  | mark
  | val (k : Int) (z : Str)
  | call (w : Str) (ts : List Tm)
def inner : Tm -> List Tm
  | .call _ ts => ts
  | _ => []
mutual
def parts : Tm -> Int
  | .call _ ts => 1 + partss ts
  | .num _ => 1
  | .text _ => 1
  | .row => 1
  | .mark => 1
  | .val _ _ => 1
def partss : List Tm -> Int
  | [] => 0
  | t :: ts => parts t + partss ts
end
mutual
def depth : Tm -> Nat
  | .call _ ts => 1 + depths ts
  | .num _ => 1
  | .text _ => 1
  | .row => 1
  | .mark => 1
  | .val _ _ => 1
def depths : List Tm -> Nat
  | [] => 0
  | t :: ts => max (depth t) (depths ts)
end
theorem partss_eq : ∀ ts : List Tm, partss ts = (ts.map parts).sum
  | [] => by unfold partss; rfl
  | t :: ts => by unfold partss; rw [List.map_cons, List.sum_cons, partss_eq ts]
theorem depths_mem : ∀ {ts : List Tm} {t : Tm}, t ∈ ts -> depth t <= depths ts
  | [], _, h => nomatch h
  | x :: ts, t, h => by
    unfold depths
    rcases List.mem_cons.mp h with rfl | h
    · omega
    · have := depths_mem h; omega
theorem depths_is : ∀ {ts : List Tm}, ts ≠ [] -> ∃ t ∈ ts, depth t = depths ts
  | [], h => absurd rfl h
  | x :: ts, _ => by
    by_cases h : ts = []
    · subst h
      exact ⟨x, by simp, by unfold depths; unfold depths; omega⟩
    · obtain ⟨t, ht, e⟩ := depths_is h
      by_cases hl : depth x <= depth t
      · exact ⟨t, List.mem_cons_of_mem _ ht, by unfold depths; omega⟩
      · exact ⟨x, List.mem_cons_self, by unfold depths; omega⟩
theorem depth_eq (t : Tm) : depth t = 1 + depths (inner t) := by
  cases t with
  | call w ts => rw [depth]; rfl
  | _ => rw [depth]; show 1 = 1 + depths []; rw [depths]
theorem depth_pos (t : Tm) : 1 <= depth t := by rw [depth_eq]; omega
theorem depth_max {ts : List Tm} {M : Int} (h1 : M ∈ ts.map fun t => (depth t : Int)) (h2 : ∀ a ∈ ts.map fun t => (depth t : Int), a <= M) : M = (depths ts : Int) := by
  obtain ⟨t, ht, rfl⟩ := List.mem_map.mp h1
  have hne : ts ≠ [] := fun z => by rw [z] at ht; cases ht
  obtain ⟨u, hu, e⟩ := depths_is hne
  have a1 := h2 _ (List.mem_map.mpr ⟨u, hu, rfl⟩)
  have a2 := depths_mem ht
  omega
def SameT (H H' : Hp) : Prop := ∀ b xs, H b = some (.tup xs) -> H' b = some (.tup xs)
theorem sameT {H H' : Hp} (e : Same H H') : SameT H H' := fun b xs h => e b _ h
theorem SameT.trans {H H1 H2 : Hp} (a : SameT H H1) (b : SameT H1 H2) : SameT H H2 := fun c xs h => b c xs (a c xs h)
theorem sameT_lst {H : Hp} {r : Addr} {xs ys : List V} (h : H r = some (.lst xs)) : SameT H (upd H r (.lst ys)) := fun b zs q => by
  rw [upd_ne (ne_of q h (fun z => nomatch z))]
  exact q
mutual
def TmIs (H : Hp) : Tm -> V -> Prop
  | .num n, v => ∃ a, v = .ref a /\ H a = some (.tup [.str "num", .int n])
  | .text z, v => ∃ a, v = .ref a /\ H a = some (.tup [.str "text", .str z])
  | .row, v => ∃ a, v = .ref a /\ H a = some (.tup [.str "row"])
  | .mark, v => ∃ a, v = .ref a /\ H a = some (.tup [.str "mark"])
  | .val k z, v => ∃ a, v = .ref a /\ H a = some (.tup [.str "of", .int k, .str z])
  | .call w ts, v => ∃ a b vs, v = .ref a /\ H a = some (.tup [.str "call", .str w, .ref b]) /\ H b = some (.tup vs) /\ vs.length <= 1000 /\ TmsIs H ts vs
def TmsIs (H : Hp) : List Tm -> List V -> Prop
  | [], vs => vs = []
  | t :: ts, vs => ∃ v r, vs = v :: r /\ TmIs H t v /\ TmsIs H ts r
end
mutual
theorem TmIs.same {H H' : Hp} (e : SameT H H') : ∀ (t : Tm) {v : V}, TmIs H t v -> TmIs H' t v
  | .num n, v, h => by unfold TmIs at h ⊢; obtain ⟨a, x, y⟩ := h; exact ⟨a, x, e _ _ y⟩
  | .text z, v, h => by unfold TmIs at h ⊢; obtain ⟨a, x, y⟩ := h; exact ⟨a, x, e _ _ y⟩
  | .row, v, h => by unfold TmIs at h ⊢; obtain ⟨a, x, y⟩ := h; exact ⟨a, x, e _ _ y⟩
  | .mark, v, h => by unfold TmIs at h ⊢; obtain ⟨a, x, y⟩ := h; exact ⟨a, x, e _ _ y⟩
  | .val k z, v, h => by unfold TmIs at h ⊢; obtain ⟨a, x, y⟩ := h; exact ⟨a, x, e _ _ y⟩
  | .call w ts, v, h => by
    unfold TmIs at h ⊢
    obtain ⟨a, b, vs, x, y, z, n, q⟩ := h
    exact ⟨a, b, vs, x, e _ _ y, e _ _ z, n, TmsIs.same e ts q⟩
theorem TmsIs.same {H H' : Hp} (e : SameT H H') : ∀ (ts : List Tm) {vs : List V}, TmsIs H ts vs -> TmsIs H' ts vs
  | [], vs, h => by unfold TmsIs at h ⊢; exact h
  | t :: ts, vs, h => by
    unfold TmsIs at h ⊢
    obtain ⟨v, r, x, y, z⟩ := h
    exact ⟨v, r, x, TmIs.same e t y, TmsIs.same e ts z⟩
end
theorem TmsIs.len {H : Hp} : ∀ {ts : List Tm} {vs : List V}, TmsIs H ts vs -> ts.length = vs.length
  | [], vs, h => by unfold TmsIs at h; subst h; rfl
  | t :: ts, vs, h => by
    unfold TmsIs at h
    obtain ⟨v, r, rfl, _, z⟩ := h
    rw [List.length_cons, List.length_cons, TmsIs.len z]
mutual
theorem parts_pos : ∀ t : Tm, 1 <= parts t
  | .call w ts => by rw [parts]; have := partss_nn ts; omega
  | .num _ => by rw [parts]; omega
  | .text _ => by rw [parts]; omega
  | .row => by rw [parts]; omega
  | .mark => by rw [parts]; omega
  | .val _ _ => by rw [parts]; omega
theorem partss_nn : ∀ ts : List Tm, 0 <= partss ts
  | [] => by rw [partss]; omega
  | t :: ts => by
    rw [partss]
    have h1 := parts_pos t
    have h2 := partss_nn ts
    omega
end
end TM
namespace L2
open PySem PySem.Spec PyProof.Rows
section
variable {X : Cx} {o e value a : Expr} {f : Str} {pos pos' tpos : Pos} {ta tv : TE}
theorem qe_fld (he : QE X e ta) (hb : attributeBase e f X.env (eval e X.env) = eval e X.env) : QE X (.Attribute e f pos) (tFld X.K ta f) := ⟨pe_fld he.h hb⟩
theorem qs_fld (ha : QE X o ta) (hv : QE X value tv) (hs : swapsWith value (some (.Attribute o f pos')) pos.line X.env = pure false) : QS X (.Assign [.Attribute o f pos'] value pos) (sFld X.K ta tv f) := ⟨ps_fld ha.h hv.h hs⟩
theorem qt_isN {j : Nat} (ha : QE X a ta) : QT X (.Compare a [.Is] [.Constant .none j pos'] pos) (tB (tIsN ta)) := ⟨pt_cmp (pc_isN ha.h)⟩
end
section
variable {X : Cx} {CX : CXT} {k : Nat} {f C : Addr} {fd : FuncData} {ps : List Str} {sp : Sp} {ds : List Value} {dvs : List V} {E : XK} {x m : Str} {p pos apos : Pos} {e o : Expr} {es : List Expr} {ta : TE} {t : TA}
theorem qe_meth {pl : Sem Bool} (he : QE X o ta) (c : Cls X.K C) (hm : Meth X.K C m f) (F : FnOk X.prog X.w X.K X.mg X.base CX k f fd ps sp) (hr : Room k X.A) (hb : Binds X.K fd ps ds) (hd : Vals dvs ds) (hx : Passes CX X E) (ha : QA X (e :: es) t)
    (hst : starEach (e :: es) X.env = (false, eval e X.env) :: starEach es X.env := by rfl) (hpl : (backTo pos (starEach es X.env)).any (·.1) = false := by rfl)
    (ht : eval (.Call (.Attribute o m apos) (e :: es) [] pos) X.env = (do
      let ov <- eval o X.env
      standAt apos.atName
      let (f, first) <- holding [ov] (getMethod ov m pl)
      callWith pos f first (backTo pos (starEach (e :: es) X.env)) (backToKw pos (keywordEach [] X.env))) := by rfl) :
    QE X (.Call (.Attribute o m apos) (e :: es) [] pos) (tMeth C m sp dvs E ta t) := ⟨pe_meth he.h c hm F hr hb hd hx ha.h hst hpl ht⟩
theorem qe_meth0 {pl : Sem Bool} (he : QE X o ta) (c : Cls X.K C) (hm : Meth X.K C m f) (F : FnOk X.prog X.w X.K X.mg X.base CX k f fd ps sp) (hr : Room k X.A) (hb : Binds X.K fd ps ds) (hd : Vals dvs ds) (hx : Passes CX X E)
    (ht : eval (.Call (.Attribute o m apos) [] [] pos) X.env = (do
      let ov <- eval o X.env
      standAt apos.atName
      let (f, first) <- holding [ov] (getMethod ov m pl)
      callWith pos f first (backTo pos (starEach [] X.env)) (backToKw pos (keywordEach [] X.env))) := by rfl) :
    QE X (.Call (.Attribute o m apos) [] [] pos) (tMeth C m sp dvs E ta tNil) := ⟨pe_meth0 he.h c hm F hr hb hd hx ht⟩
theorem qe_make0 (M : Mk X.K C f) (F : FnOk X.prog X.w X.K X.mg X.base CX k f fd ps sp) (hr : Room (k + 1) X.A) (hg : Gl X x) (hm : X.mg x = some (.ref C)) (hb : Binds X.K fd ps ds) (hd : Vals dvs ds) (hx : Passes CX X E)
    (hdb : (x == ("__debug__" : Str)) = false := by decide) : QE X (.Call (.Name x p) [] [] pos) (tMake C sp dvs E tNil) := ⟨pe_make0 M F hr hg hm hb hd hx hdb⟩
theorem call_int_txt : CallR X (.type "int") (fun xs H Q => ∃ z n, xs = [.str z] /\ PySem.intText? z = some n /\ z.length <= 640 /\ Q (.int n) H) := by
  intro pins s σ H vs us Q I r q
  obtain ⟨z, n, rfl, hn, hl, q⟩ := q
  cases r with
  | cons r rr =>
    cases rr
    obtain ⟨t, rfl⟩ := r
    exact PySem.W.KIN.call_text hn hl ⟨.int n, H, I.tok _, ⟨_, rfl⟩, q⟩
end
open PySem.W PySem.W.KIN PySem.NumText in
theorem num_reads' {n : Int} (h0 : 0 <= n) (hl : (PySem.Str.ofString (toString n)).length <= 640) : PySem.intText? (PySem.Str.ofString (toString n)) = some n := by
  obtain ⟨m, rfl⟩ := Int.eq_ofNat_of_zero_le h0
  have e1 := signs_num m
  have hne : (Nat.toDigits 10 m) ≠ [] := fun z => by
    have h := toDigits_len_ge 10 m
    rw [z] at h
    exact absurd h (by decide)
  have e := intText_digits (x := PySem.Str.ofString (toString ((m : Nat) : Int))) (fun c hc => by
    rw [e1] at hc
    obtain ⟨ch, hch, q⟩ := List.mem_map.mp hc
    rw [<- q]
    exact digit_range (Nat.isDigit_of_mem_toDigits (by decide) (by decide) hch)) (by rw [e1]; exact fun z => hne (List.map_eq_nil_iff.mp z)) (Nat.le_trans hl (by decide))
  rw [e1, val_back] at e
  exact e
end L2
namespace TM
open PySem L2
open PySem.W PySem.W.KIN PySem.NumText in
theorem dig_range {ch : Char} {m : Nat} (h : ch ∈ Nat.toDigits 10 m) : 48 <= ch.toNat /\ ch.toNat <= 57 := PyProof.Rows.digit_range (Nat.isDigit_of_mem_toDigits (by decide) (by decide) h)
open PySem.W PySem.W.KIN PySem.NumText in
theorem digs_ge (m : Nat) : 1 <= (Nat.toDigits 10 m).length := toDigits_len_ge 10 m
theorem app_list (a b : Str) : (a ++ b).cps.toList = a.cps.toList ++ b.cps.toList := by
  show (a.cps ++ b.cps).toList = _
  simp
theorem len_list (a : Str) : a.length = a.cps.toList.length := by simp [Str.length]
def mkS (l : List Nat) : Str := ⟨l.toArray⟩
theorem mk_list (l : List Nat) : (mkS l).cps.toList = l := by simp [mkS]
theorem str_ext {a b : Str} (h : a.cps.toList = b.cps.toList) : a = b := by
  cases a with | mk x => cases b with | mk y => exact congrArg Str.mk (Array.toList_inj.mp h)
theorem mk_eq {l : List Nat} {x : Str} (h : x.cps.toList = l) : x = mkS l := str_ext (by rw [h, mk_list])
mutual
def sh : Tm -> Str
  | .num n => Str.ofString (toString n)
  | .text z => "\"" ++ z ++ "\""
  | .row => "[]"
  | .mark => "mark"
  | .val k z => Str.ofString (toString k) ++ "." ++ z
  | .call w ts => w ++ "(" ++ Txt.join "," (shs ts) ++ ")"
def shs : List Tm -> List Str
  | [] => []
  | t :: ts => sh t :: shs ts
end
theorem shs_map : ∀ ts : List Tm, shs ts = ts.map sh
  | [] => by unfold shs; rfl
  | t :: ts => by unfold shs; rw [shs_map ts]; rfl
def letOk (c : Nat) : Bool := decide (97 <= c) && decide (c <= 122)
def figOk (c : Nat) : Bool := decide (48 <= c) && decide (c <= 57)
def sgnOk (c : Nat) : Bool := letOk c || figOk c
def stopB (c : Nat) : Bool := c == 40 || c == 44 || c == 41
def deeds : List Str := ["add", "sub", "mul", "less", "pick", "glue", "show", "size", "put", "link", "at", "many"]
mutual
def Wf : Tm -> Prop
  | .num n => 0 <= n /\ n < 1000000000000000000
  | .text z => z.cps.toList.length <= 40 /\ ∀ c ∈ z.cps.toList, sgnOk c = true
  | .row => True
  | .mark => True
  | .val k z => (k = 0 \/ k = 1 \/ k = 2 \/ k = 3) /\ z.cps.toList ≠ [] /\ z.cps.toList.length <= 8 /\ ∀ c ∈ z.cps.toList, letOk c = true
  | .call w ts => w ∈ deeds /\ ts ≠ [] /\ ts.length <= 3 /\ Wfs ts
def Wfs : List Tm -> Prop
  | [] => True
  | t :: ts => Wf t /\ Wfs ts
end
theorem wfs_mem : ∀ {ts : List Tm}, Wfs ts -> ∀ t ∈ ts, Wf t
  | [], _, t, h => nomatch h
  | x :: ts, w, t, h => by
    unfold Wfs at w
    rcases List.mem_cons.mp h with rfl | h
    · exact w.1
    · exact wfs_mem w.2 t h
theorem wfs_of : ∀ {ts : List Tm}, (∀ t ∈ ts, Wf t) -> Wfs ts
  | [], _ => by unfold Wfs; trivial
  | x :: ts, w => by unfold Wfs; exact ⟨w x (by simp), wfs_of fun t h => w t (by simp [h])⟩
def Leaf : Tm -> Prop
  | .call _ _ => False
  | _ => True
theorem num_list (m : Nat) : (Str.ofString (toString ((m : Nat) : Int))).cps.toList = (Nat.toDigits 10 m).map Char.toNat := PySem.W.KIN.signs_num m
theorem num_figs {n : Int} (h : 0 <= n) : ∀ c ∈ (Str.ofString (toString n)).cps.toList, figOk c = true := by
  obtain ⟨m, rfl⟩ := Int.eq_ofNat_of_zero_le h
  intro c hc
  rw [num_list] at hc
  obtain ⟨ch, hch, e⟩ := List.mem_map.mp hc
  have r := dig_range hch
  unfold figOk
  rw [Bool.and_eq_true, decide_eq_true_eq, decide_eq_true_eq, <- e]
  exact r
theorem digs_len : ∀ (k m : Nat), m < 10 ^ (k + 1) -> (Nat.toDigits 10 m).length <= k + 1 := by
  intro k
  induction k with
  | zero =>
    intro m h
    rw [Nat.toDigits_of_lt_base (by simpa using h)]
    exact Nat.le_refl _
  | succ k ih =>
    intro m h
    by_cases h10 : m < 10
    · rw [Nat.toDigits_of_lt_base h10]
      simp
    · have hm : m % 10 < 10 := Nat.mod_lt m (by decide)
      have t : Nat.toDigits 10 (m / 10) ++ Nat.toDigits 10 (m % 10) = Nat.toDigits 10 (10 * (m / 10) + m % 10) := Nat.toDigits_append_toDigits (by decide) (by omega) hm
      rw [Nat.div_add_mod] at t
      rw [<- t, List.length_append, Nat.toDigits_of_lt_base hm]
      have := ih (m / 10) (by rw [Nat.pow_succ] at h; omega)
      simp only [List.length_cons, List.length_nil]
      omega
theorem digs_ne (m : Nat) : Nat.toDigits 10 m ≠ [] := fun z => by
  have h := digs_ge m
  rw [z] at h
  exact absurd h (by decide)
theorem num_len {n : Int} (h0 : 0 <= n) (h1 : n < 1000000000000000000) : (Str.ofString (toString n)).cps.toList ≠ [] /\ (Str.ofString (toString n)).cps.toList.length <= 18 := by
  obtain ⟨m, rfl⟩ := Int.eq_ofNat_of_zero_le h0
  rw [num_list]
  refine ⟨fun z => digs_ne m (List.map_eq_nil_iff.mp z), ?_⟩
  rw [List.length_map]
  exact digs_len 17 m (by omega)
theorem head_app {α : Type} {a b : List α} (h : a ≠ []) : (a ++ b).head? = a.head? := by
  cases a with
  | nil => exact absurd rfl h
  | cons x r => rfl
theorem digs_head : ∀ (m : Nat), 0 < m -> (Nat.toDigits 10 m).head? ≠ some '0' := by
  intro m
  induction m using Nat.strongRecOn with
  | _ m ih =>
    intro hp
    by_cases h10 : m < 10
    · rw [Nat.toDigits_of_lt_base h10]
      have : m = 1 \/ m = 2 \/ m = 3 \/ m = 4 \/ m = 5 \/ m = 6 \/ m = 7 \/ m = 8 \/ m = 9 := by omega
      rcases this with rfl | rfl | rfl | rfl | rfl | rfl | rfl | rfl | rfl <;> decide
    · have hm : m % 10 < 10 := Nat.mod_lt m (by decide)
      have t : Nat.toDigits 10 (m / 10) ++ Nat.toDigits 10 (m % 10) = Nat.toDigits 10 (10 * (m / 10) + m % 10) := Nat.toDigits_append_toDigits (by decide) (by omega) hm
      rw [Nat.div_add_mod] at t
      rw [<- t, head_app (digs_ne _)]
      exact ih (m / 10) (by omega) (by omega)
theorem num_head {n : Int} (h0 : 0 <= n) (h : (Str.ofString (toString n)).cps.toList.head? = some 48) : n = 0 := by
  obtain ⟨m, rfl⟩ := Int.eq_ofNat_of_zero_le h0
  rw [num_list, List.head?_map] at h
  by_cases hp : 0 < m
  · exfalso
    cases e : (Nat.toDigits 10 m).head? with
    | none => rw [e] at h; cases h
    | some ch =>
      rw [e] at h
      have h2 : ch.toNat = 48 := Option.some.inj h
      have h3 : ch = '0' := Char.toNat_inj.mp (by rw [h2]; rfl)
      exact digs_head m hp (by rw [e, h3])
  · omega
theorem fig_stop {c : Nat} (h : figOk c = true) : stopB c = false := by
  unfold figOk at h
  rw [Bool.and_eq_true, decide_eq_true_eq, decide_eq_true_eq] at h
  unfold stopB
  rw [beq_eq_false_iff_ne.mpr (by omega), beq_eq_false_iff_ne.mpr (by omega), beq_eq_false_iff_ne.mpr (by omega)]
  rfl
theorem let_stop {c : Nat} (h : letOk c = true) : stopB c = false := by
  unfold letOk at h
  rw [Bool.and_eq_true, decide_eq_true_eq, decide_eq_true_eq] at h
  unfold stopB
  rw [beq_eq_false_iff_ne.mpr (by omega), beq_eq_false_iff_ne.mpr (by omega), beq_eq_false_iff_ne.mpr (by omega)]
  rfl
theorem sgn_stop {c : Nat} (h : sgnOk c = true) : stopB c = false := by
  unfold sgnOk at h
  rcases Bool.or_eq_true _ _ |>.mp h with h | h
  · exact let_stop h
  · exact fig_stop h
theorem q_list : ("\"" : Str).cps.toList = [34] := by decide
theorem dot_list : ("." : Str).cps.toList = [46] := by decide
theorem leaf_stop {t : Tm} (hl : Leaf t) (w : Wf t) : ∀ c ∈ (sh t).cps.toList, stopB c = false := by
  intro c hc
  cases t with
  | num n => unfold sh at hc; unfold Wf at w; exact fig_stop (num_figs w.1 c hc)
  | text z =>
    unfold sh at hc
    unfold Wf at w
    rw [app_list, app_list, q_list] at hc
    simp only [List.mem_append, List.mem_singleton] at hc
    rcases hc with (rfl | hc) | rfl
    · decide
    · exact sgn_stop (w.2 c hc)
    · decide
  | row => unfold sh at hc; revert c; decide
  | mark => unfold sh at hc; revert c; decide
  | val k z =>
    unfold sh at hc
    unfold Wf at w
    rw [app_list, app_list, dot_list] at hc
    simp only [List.mem_append, List.mem_singleton] at hc
    rcases hc with (hc | rfl) | hc
    · exact fig_stop (num_figs (by rcases w.1 with h | h | h | h <;> omega) c hc)
    · decide
    · exact let_stop (w.2.2.2 c hc)
  | call _ _ => cases hl
theorem deed_stop : ∀ d ∈ deeds, ∀ c ∈ d.cps.toList, stopB c = false := by decide +kernel
theorem deed_len : ∀ d ∈ deeds, d.cps.toList.length <= 4 := by decide +kernel
def pcs (acc : List Nat) : List Nat -> List (Str × Str)
  | [] => [(mkS acc, mkS [])]
  | c :: r => if stopB c = true then (mkS acc, mkS [c]) :: pcs [] r else pcs (acc ++ [c]) r
theorem pcs_app : ∀ (u : List Nat) (acc r : List Nat), (∀ c ∈ u, stopB c = false) -> pcs acc (u ++ r) = pcs (acc ++ u) r
  | [], acc, r, _ => by rw [List.nil_append, List.append_nil]
  | c :: u, acc, r, h => by
    rw [List.cons_append, pcs, if_neg (by rw [h c (by simp)]; decide), pcs_app u (acc ++ [c]) r fun d hd => h d (by simp [hd]), List.append_assoc]
    rfl
structure Ms where
  op : List (Str × List Tm)
  rd : Option Tm
  cnt : Int
  dp : Int
inductive Endd : Ms -> Str -> Ms -> Prop
  | leaf {op : List (Str × List Tm)} {cnt dp : Int} {t : Tm} : Leaf t -> Wf t -> Endd ⟨op, none, cnt, dp⟩ (sh t) ⟨op, some t, cnt + 1, max dp ((op.length : Int) + 1)⟩
  | again {op : List (Str × List Tm)} {cnt dp : Int} {t : Tm} : Endd ⟨op, some t, cnt, dp⟩ (mkS []) ⟨op, some t, cnt, dp⟩
inductive Step : Ms -> Str × Str -> Ms -> Prop
  | opn {op : List (Str × List Tm)} {cnt dp : Int} {d : Str} : d ∈ deeds -> Step ⟨op, none, cnt, dp⟩ (d, mkS [40]) ⟨op ++ [(d, [])], none, cnt + 1, dp⟩
  | fin {st st1 : Ms} {z : Str} : Endd st z st1 -> Step st (z, mkS []) st1
  | comma {st : Ms} {z d : Str} {op : List (Str × List Tm)} {ts : List Tm} {t : Tm} {cnt dp : Int} : Endd st z ⟨op ++ [(d, ts)], some t, cnt, dp⟩ -> Step st (z, mkS [44]) ⟨op ++ [(d, ts ++ [t])], none, cnt, dp⟩
  | close {st : Ms} {z d : Str} {op : List (Str × List Tm)} {ts : List Tm} {t : Tm} {cnt dp : Int} : Endd st z ⟨op ++ [(d, ts)], some t, cnt, dp⟩ -> ts.length + 1 <= 3 -> Step st (z, mkS [41]) ⟨op, some (.call d (ts ++ [t])), cnt, dp⟩
def Run : Ms -> List (Str × Str) -> Ms -> Prop
  | st, [], fin => st = fin
  | st, p :: ps, fin => ∃ st1, Step st p st1 /\ Run st1 ps fin
def Goes (op : List (Str × List Tm)) (t : Tm) (cnt dp : Int) : List Nat -> Ms -> Prop
  | [], fin => fin = ⟨op, some t, cnt, dp⟩
  | c :: r, fin => (c = 44 /\ ∃ pre d ts, op = pre ++ [(d, ts)] /\ Run ⟨pre ++ [(d, ts ++ [t])], none, cnt, dp⟩ (pcs [] r) fin) \/
      (c = 41 /\ ∃ pre d ts, op = pre ++ [(d, ts)] /\ ts.length + 1 <= 3 /\ Run ⟨pre, some (.call d (ts ++ [t])), cnt, dp⟩ (pcs [] r) fin)
theorem goes_run {st : Ms} {z : Str} {op : List (Str × List Tm)} {t : Tm} {cnt dp : Int} {r : List Nat} {fin : Ms} (he : Endd st z ⟨op, some t, cnt, dp⟩) (hg : Goes op t cnt dp r fin) : Run st (pcs z.cps.toList r) fin := by
  have hz : mkS z.cps.toList = z := (mk_eq rfl).symm
  cases r with
  | nil =>
    have e : fin = ⟨op, some t, cnt, dp⟩ := hg
    rw [pcs, hz]
    exact ⟨_, .fin he, e.symm⟩
  | cons c r =>
    rcases hg with ⟨rfl, pre, d, ts, rfl, h⟩ | ⟨rfl, pre, d, ts, rfl, hl, h⟩
    · rw [pcs, if_pos (by decide), hz]
      exact ⟨_, .comma he, h⟩
    · rw [pcs, if_pos (by decide), hz]
      exact ⟨_, .close he hl, h⟩
def joined : List Tm -> List Nat
  | [] => []
  | [t] => (sh t).cps.toList
  | t :: t2 :: ts => (sh t).cps.toList ++ 44 :: joined (t2 :: ts)
theorem joined_cons : ∀ (ts : List Tm) (t : Tm), joined (t :: ts) = (sh t).cps.toList ++ ((ts.map sh).map fun z => 44 :: z.cps.toList).flatten
  | [], t => by unfold joined; simp
  | u :: us, t => by unfold joined; rw [joined_cons us u]; simp
theorem glue44 : ∀ (zs : List Str) (acc : Array Nat), (zs.foldl (fun acc p => acc ++ (Str.ofString ",").cps ++ p.cps) acc).toList = acc.toList ++ (zs.map fun z => 44 :: z.cps.toList).flatten
  | [], acc => by simp
  | p :: zs, acc => by
    rw [List.foldl_cons, glue44 zs]
    have e : (Str.ofString ",").cps = #[44] := by decide
    rw [e]
    simp
theorem join_list : ∀ ts : List Tm, (Txt.join "," (shs ts)).cps.toList = joined ts
  | [] => by unfold shs joined; rfl
  | t :: ts => by
    unfold shs
    show ((shs ts).foldl (fun acc p => acc ++ (Str.ofString ",").cps ++ p.cps) (sh t).cps).toList = _
    rw [glue44, joined_cons, shs_map]
theorem call_list (w : Str) (ts : List Tm) : (sh (.call w ts)).cps.toList = w.cps.toList ++ 40 :: (joined ts ++ [41]) := by
  unfold sh
  rw [app_list, app_list, app_list, join_list, show (Str.ofString "(").cps.toList = [40] by decide, show (Str.ofString ")").cps.toList = [41] by decide]
  simp
theorem parts_leaf {t : Tm} (h : Leaf t) : parts t = 1 := by cases t with | call _ _ => cases h | _ => rw [parts]
theorem depth_leaf {t : Tm} (h : Leaf t) : depth t = 1 := by cases t with | call _ _ => cases h | _ => rw [depth]
mutual
theorem run_term : ∀ (t : Tm), Wf t -> ∀ (op : List (Str × List Tm)) (cnt dp : Int) (r : List Nat) (fin : Ms), Goes op t (cnt + parts t) (max dp ((op.length : Int) + depth t)) r fin -> Run ⟨op, none, cnt, dp⟩ (pcs [] ((sh t).cps.toList ++ r)) fin
  | .call w ts, hw, op, cnt, dp, r, fin, hg => by
    unfold Wf at hw
    obtain ⟨h1, h2, h3, h4⟩ := hw
    rw [call_list, List.append_assoc, pcs_app _ _ _ (deed_stop w h1), List.nil_append, List.cons_append, pcs, if_pos (by decide), <- mk_eq (x := w) rfl]
    refine ⟨_, .opn h1, ?_⟩
    rw [List.append_assoc]
    refine run_terms ts h4 h2 op w [] (cnt + 1) dp r fin (by rw [List.length_nil]; omega) ?_
    have e : ((mkS []).cps.toList) = [] := mk_list []
    have g := goes_run (z := mkS []) (op := op) (t := .call w ts) (Endd.again) hg
    rw [e] at g
    rw [List.nil_append]
    have e1 : cnt + 1 + partss ts = cnt + parts (.call w ts) := by rw [parts]; omega
    have e2 : max dp ((op.length : Int) + 1 + depths ts) = max dp ((op.length : Int) + (depth (.call w ts) : Nat)) := by rw [depth]; congr 1; omega
    rw [e1, e2]
    exact g
  | .num n, hw, op, cnt, dp, r, fin, hg => by
    rw [pcs_app _ _ _ (leaf_stop (t := .num n) trivial hw), List.nil_append]
    exact goes_run (Endd.leaf (t := .num n) trivial hw) (by rw [parts_leaf (t := .num n) trivial, depth_leaf (t := .num n) trivial] at hg; exact hg)
  | .text z, hw, op, cnt, dp, r, fin, hg => by
    rw [pcs_app _ _ _ (leaf_stop (t := .text z) trivial hw), List.nil_append]
    exact goes_run (Endd.leaf (t := .text z) trivial hw) (by rw [parts_leaf (t := .text z) trivial, depth_leaf (t := .text z) trivial] at hg; exact hg)
  | .row, hw, op, cnt, dp, r, fin, hg => by
    rw [pcs_app _ _ _ (leaf_stop (t := .row) trivial hw), List.nil_append]
    exact goes_run (Endd.leaf (t := .row) trivial hw) (by rw [parts_leaf (t := .row) trivial, depth_leaf (t := .row) trivial] at hg; exact hg)
  | .mark, hw, op, cnt, dp, r, fin, hg => by
    rw [pcs_app _ _ _ (leaf_stop (t := .mark) trivial hw), List.nil_append]
    exact goes_run (Endd.leaf (t := .mark) trivial hw) (by rw [parts_leaf (t := .mark) trivial, depth_leaf (t := .mark) trivial] at hg; exact hg)
  | .val k z, hw, op, cnt, dp, r, fin, hg => by
    rw [pcs_app _ _ _ (leaf_stop (t := .val k z) trivial hw), List.nil_append]
    exact goes_run (Endd.leaf (t := .val k z) trivial hw) (by rw [parts_leaf (t := .val k z) trivial, depth_leaf (t := .val k z) trivial] at hg; exact hg)
theorem run_terms : ∀ (ts : List Tm), Wfs ts -> ts ≠ [] -> ∀ (op : List (Str × List Tm)) (w : Str) (ts0 : List Tm) (cnt dp : Int) (r : List Nat) (fin : Ms), ts0.length + ts.length <= 3 ->
    Run ⟨op, some (.call w (ts0 ++ ts)), cnt + partss ts, max dp ((op.length : Int) + 1 + depths ts)⟩ (pcs [] r) fin -> Run ⟨op ++ [(w, ts0)], none, cnt, dp⟩ (pcs [] (joined ts ++ ([41] ++ r))) fin
  | [], _, hn, _, _, _, _, _, _, _, _, _ => absurd rfl hn
  | [t], hw, _, op, w, ts0, cnt, dp, r, fin, hl, hr => by
    unfold Wfs at hw
    unfold joined
    refine run_term t hw.1 _ cnt dp _ fin (.inr ⟨rfl, op, w, ts0, rfl, by simpa using hl, ?_⟩)
    rw [partss, partss, depths, depths] at hr
    have e1 : cnt + (parts t + 0) = cnt + parts t := by omega
    have e2 : max dp ((op.length : Int) + 1 + (max (depth t) 0 : Nat)) = max dp (((op ++ [(w, ts0)]).length : Int) + depth t) := by
      rw [List.length_append, List.length_singleton, Nat.max_zero]
      congr 1
    rw [e1, e2] at hr
    exact hr
  | t :: t2 :: ts, hw, _, op, w, ts0, cnt, dp, r, fin, hl, hr => by
    unfold Wfs at hw
    unfold joined
    rw [List.append_assoc, List.cons_append]
    refine run_term t hw.1 _ cnt dp _ fin (.inl ⟨rfl, op, w, ts0, rfl, ?_⟩)
    refine run_terms (t2 :: ts) hw.2 (by simp) op w (ts0 ++ [t]) _ _ r fin (by rw [List.length_append, List.length_singleton]; simp only [List.length_cons] at hl ⊢; omega) ?_
    rw [partss, depths] at hr
    have e1 : cnt + (parts t + partss (t2 :: ts)) = cnt + parts t + partss (t2 :: ts) := by omega
    have e2 : max dp ((op.length : Int) + 1 + (max (depth t) (depths (t2 :: ts)) : Nat)) = max (max dp (((op ++ [(w, ts0)]).length : Int) + depth t)) ((op.length : Int) + 1 + depths (t2 :: ts)) := by
      rw [List.length_append, List.length_singleton]
      omega
    rw [e1, e2] at hr
    rw [List.append_assoc]
    exact hr
end
theorem run_all {t : Tm} (hw : Wf t) : Run ⟨[], none, 0, 0⟩ (pcs [] (sh t).cps.toList) ⟨[], some t, parts t, depth t⟩ := by
  have h := run_term t hw [] 0 0 [] ⟨[], some t, parts t, depth t⟩ (by
    show _ = _
    have h1 := depth_pos t
    rw [show (0 : Int) + parts t = parts t by omega, show max (0 : Int) (((([] : List (Str × List Tm)).length : Nat) : Int) + depth t) = depth t by rw [List.length_nil]; omega])
  rw [List.append_nil] at h
  exact h
mutual
theorem sh_len : ∀ (t : Tm), Wf t -> ((sh t).length : Int) <= 50 * parts t
  | .call w ts, hw => by
    unfold Wf at hw
    obtain ⟨h1, h2, h3, h4⟩ := hw
    have a := deed_len w h1
    have b := joined_len ts h4
    have e := call_list w ts
    rw [len_list, e, parts]
    simp only [List.length_append, List.length_cons, List.length_nil]
    omega
  | .num n, hw => by
    unfold Wf at hw
    have := (num_len hw.1 hw.2).2
    rw [len_list, parts]
    unfold sh
    omega
  | .text z, hw => by
    unfold Wf at hw
    rw [len_list, parts]
    unfold sh
    rw [app_list, app_list, q_list]
    simp only [List.length_append, List.length_cons, List.length_nil]
    omega
  | .row, _ => by rw [parts]; decide
  | .mark, _ => by rw [parts]; decide
  | .val k z, hw => by
    unfold Wf at hw
    have := (num_len (n := k) (by rcases hw.1 with h | h | h | h <;> omega) (by rcases hw.1 with h | h | h | h <;> omega)).2
    rw [len_list, parts]
    unfold sh
    rw [app_list, app_list, dot_list]
    simp only [List.length_append, List.length_cons, List.length_nil]
    omega
theorem joined_len : ∀ (ts : List Tm), Wfs ts -> ((joined ts).length : Int) <= 50 * partss ts + ts.length
  | [], _ => by unfold joined; rw [partss]; decide
  | [t], hw => by
    unfold Wfs at hw
    have := sh_len t hw.1
    unfold joined
    rw [partss, partss]
    rw [len_list] at this
    simp only [List.length_cons, List.length_nil]
    omega
  | t :: t2 :: ts, hw => by
    unfold Wfs at hw
    have h1 := sh_len t hw.1
    have h2 := joined_len (t2 :: ts) hw.2
    unfold joined
    rw [partss]
    rw [len_list] at h1
    simp only [List.length_append, List.length_cons] at h2 ⊢
    omega
end
def Asc (l : List Nat) : Prop := ∀ c ∈ l, c < 128
theorem Asc.app {a b : List Nat} (h : Asc a) (g : Asc b) : Asc (a ++ b) := fun c hc => (List.mem_append.mp hc).elim (h c) (g c)
theorem deed_asc : ∀ d ∈ deeds, ∀ c ∈ d.cps.toList, c < 128 := by decide +kernel
theorem sgn_asc {c : Nat} (h : sgnOk c = true) : c < 128 := by
  unfold sgnOk letOk figOk at h
  simp only [Bool.or_eq_true, Bool.and_eq_true, decide_eq_true_eq] at h
  omega
theorem fig_asc {c : Nat} (h : figOk c = true) : c < 128 := sgn_asc (by unfold sgnOk; rw [h, Bool.or_true])
theorem let_asc {c : Nat} (h : letOk c = true) : c < 128 := sgn_asc (by unfold sgnOk; rw [h]; rfl)
mutual
theorem sh_asc : ∀ (t : Tm), Wf t -> Asc (sh t).cps.toList
  | .call w ts, hw => by
    unfold Wf at hw
    rw [call_list]
    exact Asc.app (deed_asc w hw.1) (Asc.app (a := [40]) (fun c hc => by rw [List.mem_singleton.mp hc]; decide) (Asc.app (joined_asc ts hw.2.2.2) fun c hc => by rw [List.mem_singleton.mp hc]; decide))
  | .num n, hw => by
    unfold Wf at hw
    unfold sh
    exact fun c hc => fig_asc (num_figs hw.1 c hc)
  | .text z, hw => by
    unfold Wf at hw
    unfold sh
    rw [app_list, app_list, q_list]
    exact Asc.app (Asc.app (fun c hc => by rw [List.mem_singleton.mp hc]; decide) fun c hc => sgn_asc (hw.2 c hc)) fun c hc => by rw [List.mem_singleton.mp hc]; decide
  | .row, _ => by unfold sh; unfold Asc; decide
  | .mark, _ => by unfold sh; unfold Asc; decide
  | .val k z, hw => by
    unfold Wf at hw
    unfold sh
    rw [app_list, app_list, dot_list]
    exact Asc.app (Asc.app (fun c hc => fig_asc (num_figs (by rcases hw.1 with h | h | h | h <;> omega) c hc)) fun c hc => by rw [List.mem_singleton.mp hc]; decide) fun c hc => let_asc (hw.2.2.2 c hc)
theorem joined_asc : ∀ (ts : List Tm), Wfs ts -> Asc (joined ts)
  | [], _ => by unfold joined; exact fun c hc => nomatch hc
  | [t], hw => by
    unfold Wfs at hw
    unfold joined
    exact sh_asc t hw.1
  | t :: t2 :: ts, hw => by
    unfold Wfs at hw
    unfold joined
    exact Asc.app (sh_asc t hw.1) (Asc.app (a := [44]) (fun c hc => by rw [List.mem_singleton.mp hc]; decide) (joined_asc (t2 :: ts) hw.2))
end
end TM
namespace TM
open PySem L2
open PySem.Builtin.Str (strSub occurrences partsBetween)
end TM
namespace L2
open PySem PySem.Spec PyProof.Rows
open PySem.Builtin.Str (strSub occurrences)
section
variable {X : Cx}
end
section
variable {X : Cx} {tg : Expr}
end
theorem qg_tupC {X : Cx} {pos : Pos} {es : List Expr} {k : Nat} {t : TGs} {n : Nat} {K : PySem.W.Frag} (hK : X.K = K) (hc : X.calm = true) (h : QGs X es t) (hn : (assignEach es X.env).length = n := by rfl) (hst : (assignEach es X.env).findIdx? (·.1) = none := by rfl) : QG X (.Tuple es k pos) (gTup K n t) := by
  subst hK
  exact qg_tup hc h hn hst
end L2
namespace TM
open PySem L2
inductive L2R {α : Type} (R : α -> V -> Prop) : List α -> List V -> Prop
  | nil : L2R R [] []
  | cons {a : α} {v : V} {as : List α} {vs : List V} : R a v -> L2R R as vs -> L2R R (a :: as) (v :: vs)
namespace L2R
variable {α : Type} {R R' : α -> V -> Prop}
theorem imp (h : ∀ a v, R a v -> R' a v) : ∀ {as : List α} {vs : List V}, L2R R as vs -> L2R R' as vs
  | _, _, .nil => .nil
  | _, _, .cons x y => .cons (h _ _ x) (imp h y)
theorem len : ∀ {as : List α} {vs : List V}, L2R R as vs -> vs.length = as.length
  | _, _, .nil => rfl
  | _, _, .cons _ y => by rw [List.length_cons, List.length_cons, len y]
theorem get : ∀ {as : List α} {vs : List V} {i : Nat} {v : V}, L2R R as vs -> vs[i]? = some v -> ∃ a, as[i]? = some a /\ R a v
  | _, _, i, v, .nil, e => by simp at e
  | _, _, 0, v, .cons (a := a) x y, e => by
    simp at e
    subst e
    exact ⟨a, rfl, x⟩
  | _, _, i + 1, v, .cons x y, e => by
    obtain ⟨b, hb, r⟩ := get (i := i) y (by simpa using e)
    exact ⟨b, by simpa using hb, r⟩
theorem app : ∀ {as bs : List α} {vs us : List V}, L2R R as vs -> L2R R bs us -> L2R R (as ++ bs) (vs ++ us)
  | _, _, _, _, .nil, g => g
  | _, _, _, _, .cons x y, g => .cons x (app y g)
theorem one {a : α} {v : V} (h : R a v) : L2R R [a] [v] := .cons h .nil
theorem snoc {as : List α} {vs : List V} {a : α} {v : V} (h : L2R R as vs) (g : R a v) : L2R R (as ++ [a]) (vs ++ [v]) := h.app (one g)
theorem nil_of {vs : List V} (h : L2R R [] vs) : vs = [] := by cases h; rfl
theorem inv_cons {a : α} {as : List α} {vs : List V} (h : L2R R (a :: as) vs) : ∃ v r, vs = v :: r /\ R a v /\ L2R R as r := by
  cases h with
  | cons x y => exact ⟨_, _, rfl, x, y⟩
end L2R
section
variable {H H' : Hp}
end
end TM
namespace L2
open PySem PySem.Spec PyProof.Rows TM
theorem take_snocA {α : Type} {xs : List α} {i : Nat} {x : α} (h : xs[i]? = some x) : xs.take (i + 1) = xs.take i ++ [x] := by
  rw [List.take_succ, h]
  rfl
section
variable {K : PySem.W.Frag} {a : Addr} {xs : List V} {js : List Nat} {g : TG} {n : Nat} {te : TE} {σ : St} {Q : VK} {D : Addr} {H1 : Hp} {α : Type} {R : Hp -> α -> V -> Prop} {as : List α}
end
end L2
namespace L2
open PySem PySem.Spec PyProof.Rows
end L2
namespace L2
open PySem PySem.Spec PyProof.Rows
section
variable {prog : Program} {w : World} {A : Around} {E : Value -> Shared -> Prop} {s : Shared}
end
end L2
namespace L2
open PySem PySem.Spec PyProof.Rows
section
variable {prog : Program} {w : World} {A : Around} {E : Value -> Shared -> Prop} {s : Shared}
end
section
variable {X : Cx} {e : Expr} {te : TE} {p1 p2 q1 q2 : Pos}
end
end L2
namespace L2
open PySem PySem.Spec PyProof.Rows
section
variable {X : Cx} {elts : List Expr} {k : Nat} {tpos : Pos}
end
end L2
namespace L2
open PySem PySem.Spec PyProof.Rows
section
variable {X : Cx}
end
end L2
namespace L2
open PySem PySem.Spec PyProof.Rows
section
variable {X : Cx}
theorem op_neNil (hu : X.A.units + 64 < cLine) : OpR X (compareOp .NotEq) (fun x y H Q => ∃ a b xs, x = .ref a /\ y = .ref b /\ SqL X.K H a xs /\ SqL X.K H b [] /\ Q (.bl (!decide (xs = []))) H) := by
  intro pins s σ H x y v u Q I rx ry h
  obtain ⟨a, b, xs, e1, e2, ha, hb, q⟩ := h
  by_cases hx : xs = []
  · subst hx
    refine op_neD hu pins s σ H x y v u Q I rx ry ⟨a, b, [], [], [], [], e1, e2, .inr ⟨ha, hb⟩, isds_nil, isds_nil, by unfold depDs; omega, ?_⟩
    have e : (!(eqDs [] [])) = !decide (([] : List V) = []) := by unfold eqDs; rfl
    rw [e]
    exact q
  · subst e1 e2
    cases rx
    cases ry
    obtain ⟨us, r1, p1, _⟩ := I.list ha
    obtain ⟨ws, r2, p2, _⟩ := I.list hb
    cases r2
    have hne : us ≠ [] := fun z => hx ((Vals.nil_iff r1).mp z)
    refine SeqAt.RcNeAt.lists_lengths p1.isList p2.isList (by simpa using hne) (by omega) _ _ _ _ ⟨.bl _, H, I, ?_, q⟩
    rw [decide_eq_false hx]
    rfl
def rGetL (K : PySem.W.Frag) : V -> V -> Hp -> VK -> Prop := fun o i H Q => ∃ p xs k v, o = .ref p /\ i = .int k /\ k < 0 /\ SqL K H p xs /\ atI xs k = some v /\ Q v H
theorem get_list : PGet X (rGetL X.K) := by
  intro pins s σ H o i ov iv Q I ro ri h
  obtain ⟨p, xs, k, z, rfl, rfl, hk, hq, he, q⟩ := h
  cases ro
  obtain ⟨t, rfl⟩ := ri
  obtain ⟨its, r, pl, hz⟩ := I.list hq
  obtain ⟨j, h1, h2, h3, h4, h5⟩ := atI_get he
  obtain ⟨w, ew, rw'⟩ := r.get h2
  have hl := r.length
  have hn := line63
  have hj : (k + (its.toArray.size : Int)).toNat = j := by
    rw [seqIndex_neg (by omega) h4] at h1
    rw [List.size_toArray, <- hl]
    exact Option.some.inj h1
  exact wpAny_getItem_list_neg pl.isList (by omega) (by rw [List.size_toArray] <;> omega) (by omega) (by rw [hj]; simpa using ew) ⟨z, H, I, rw', q⟩
theorem qs_augS {o i e : Expr} {to ti te : TE} {tget : V -> V -> Hp -> VK -> Prop} {tip : TIp} {tset : TSet} {op : Operator} {tpos pos : Pos} (ho : QE X o to) (hi : QE X i ti) (hg : PGet X tget) (he : QE X e te) (hp : PIp X op tip) (hs : PSet X tset)
    (ha : ∀ ov iv new, augStore i ov iv new = (do holding [new, ov, iv] (setItem ov iv new); release [new, ov, iv] []; pure .next) := by intros; rfl) : QS X (.AugAssign (.Subscript o i tpos) op e pos) (tAugS to ti te tget tip tset) := ⟨ps_augS ho.h hi.h hg he.h hp hs ha⟩
end
section
variable {X : Cx} {tg e : Expr} {te : TE} {p q : Pos}
end
section
variable {prog : Program} {w : World} {A : Around} {E : Value -> Shared -> Prop} {s : Shared}
end
section
variable {X : Cx} {tg e : Expr} {te : TE} {p1 p2 q1 q2 : Pos}
end
end L2
namespace L2
open PySem PySem.Spec PyProof.Rows
section
variable {X : Cx} {Dc : Addr} {dn n : Str} {i : Nat} {np hpos : Pos} {ts : TS} {b0 : Stmt} {suite : List Stmt} {pins : List (Addr × Obj)} {σ : St} {H1 : Hp} {s1 s' : Shared} {D : Ends} {ev : Value} {Q : Flow -> Shared -> Prop}
variable {k : Nat} {f : Addr} {fd : FuncData} {ps : List Str} {sp : Sp} {x : Str} {p cpos epos : Pos} {e : Expr} {es : List Expr} {t : TA} {EX : XK} {N : Hp -> Prop} {H : Hp} {s : Shared}
end
section
variable {X : Cx} {Dc : Addr} {dn n : Str} {i : Nat} {np hpos pos ipos : Pos} {ts : TS} {b0 : Stmt} {suite : List Stmt} {c : Expr} {tc : TT}
  {k1 k2 : Nat} {f1 f2 : Addr} {fd1 fd2 : FuncData} {ps1 ps2 : List Str} {sp1 sp2 : Sp} {x1 x2 : Str} {p1 p2 c1 c2 q1 q2 : Pos} {e1 e2 : Expr} {es1 es2 : List Expr} {t1 t2 : TA}
end
end L2
namespace L2
open PySem PySem.Spec PyProof.Rows
section
variable {prog : Program} {w : World} {A : Around} {E : Value -> Shared -> Prop} {s : Shared}
theorem tupNext_yes {it t : Addr} {i : Nat} {vs : Array Value} {x : Value} {Q : Value -> Shared -> Prop} (hi : s.heap.IsTupleIter it t i) (ht : s.heap.IsTuple t vs) (hx : vs[i]? = some x)
    (q : ∀ h', h'.IsTupleIter it t (i + 1) -> Heap.SameBut it s.heap h' -> Q x { s with heap := h' }) : wpAny (model prog w) A (Builtin.SmallTypes.nextOf (.ref it)) Q E s := by
  obtain ⟨o, ho, hc, hd⟩ := id hi
  obtain ⟨ot, hot, _, nt, hdt⟩ := ht
  unfold Builtin.SmallTypes.nextOf
  refine wpAny_bind (wpAny_callSpecial?_slot (name := Str.ofString "__next__") hi.typeIs F.slot_tuple_iterator_next (wpAny_call_entry F.slot_tuple_iterator_next hi.typeIs F.entry_tuple_iterator_next ?_ (F.args_tuple_iterator_next_1 _)))
  show wpAny _ _ (field (.ref it) 0 >>= _) _ _ s
  refine wpAny_bind (wpAny_field ho hd (x := .ref t) rfl (show wpAny _ _ (if (Value.ref t == Value.none) = true then _ else _) _ _ s from ?_))
  rw [if_neg (show ¬ ((Value.ref t == Value.none) = true) from Bool.false_ne_true)]
  show wpAny _ _ (field (.ref it) 1 >>= _) _ _ s
  refine wpAny_bind (wpAny_field ho hd (x := .int i 0) rfl (show wpAny _ _ (seqItems? (.ref t) >>= _) _ _ s from wpAny_bind (wpAny_seqItems hot hdt ?_)))
  simp only [Int.toNat_natCast, hx]
  refine wpAny_bind (wpAny_setField ho hd (by simp) (wpAny_pure ⟨x, rfl, wpAny_pure (q _ ⟨_, Heap.get?_update_self _ ho (Obj.isFreed_of_fields (Obj.data_mapFields hd _)), (Obj.cls_mapFields ..).trans hc, ?_⟩ (Heap.SameBut.update ..))⟩))
  rw [Obj.data_mapFields hd]
  simp [rawInt]
theorem tupNext_no {it t : Addr} {i : Nat} {vs : Array Value} {Q : Value -> Shared -> Prop} (hh : A.handled = none) (hi : s.heap.IsTupleIter it t i) (ht : s.heap.IsTuple t vs) (hx : vs[i]? = none)
    (q : ∀ h' e, Heap.ExtBut it s.heap h' -> (∃ o, h'.get? e = some o /\ o.cls = .type "StopIteration") -> E (.ref e) { s with heap := h' }) : wpAny (model prog w) A (Builtin.SmallTypes.nextOf (.ref it)) Q E s := by
  obtain ⟨o, ho, hc, hd⟩ := id hi
  obtain ⟨ot, hot, _, nt, hdt⟩ := ht
  unfold Builtin.SmallTypes.nextOf
  refine wpAny_bind (wpAny_callSpecial?_slot (name := Str.ofString "__next__") hi.typeIs F.slot_tuple_iterator_next (wpAny_call_entry F.slot_tuple_iterator_next hi.typeIs F.entry_tuple_iterator_next ?_ (F.args_tuple_iterator_next_1 _)))
  show wpAny _ _ (field (.ref it) 0 >>= _) _ _ s
  refine wpAny_bind (wpAny_field ho hd (x := .ref t) rfl (show wpAny _ _ (if (Value.ref t == Value.none) = true then _ else _) _ _ s from ?_))
  rw [if_neg (show ¬ ((Value.ref t == Value.none) = true) from Bool.false_ne_true)]
  show wpAny _ _ (field (.ref it) 1 >>= _) _ _ s
  refine wpAny_bind (wpAny_field ho hd (x := .int i 0) rfl (show wpAny _ _ (seqItems? (.ref t) >>= _) _ _ s from wpAny_bind (wpAny_seqItems hot hdt ?_)))
  simp only [Int.toNat_natCast, hx]
  refine wpAny_bind (wpAny_rule (wpAny_bind (wpAny_setField ho hd (by simp) (show wpAny _ _ (newExc (.type "StopIteration") [] >>= _) _ _ _ from wpAny_bind ?_))))
  simp only [newExc, newTuple]
  refine wpAny_bind (wpAny_newObj_type (wpAny_bind (m := firstArgMember _ _) (wpAny_of_eq (a := Value.none) (by first | rfl | (simp only [firstArgMember]; rfl)) (wpAny_newObj_type ?_ (by size_fits)))) (by size_fits))
  simp only [raiseNew]
  refine wpAny_bind (wpAny_handled ?_)
  first | rw [show A.in1.handled = none from hh] | rw [hh]
  exact wpAny_bind (wpAny_pure (wpAny_throw (q _ _ (((Heap.SameBut.update ..).extBut.push _).push _) ⟨_, Heap.get?_push_size _ rfl, rfl⟩)))
structure ZAp (z TI TO i1 i2 t1 t2 : Addr) : Prop where
  a1 : TI ≠ z
  a2 : TO ≠ z
  a3 : i1 ≠ z
  a4 : i2 ≠ z
  a5 : TI ≠ TO
  a6 : TI ≠ i1
  a7 : TI ≠ i2
  a8 : TO ≠ i1
  a9 : TO ≠ i2
  b1 : i1 ≠ i2
  c1 : t1 ≠ z
  c2 : t1 ≠ TO
  c3 : t1 ≠ i1
  c4 : t1 ≠ i2
  d1 : t2 ≠ z
  d2 : t2 ≠ TO
  d3 : t2 ≠ i1
  d4 : t2 ≠ i2
structure ZSt (h : Heap) (z TI TO i1 i2 t1 t2 : Addr) (k : Nat) (vs us : Array Value) (f : Value) : Prop where
  zz : IsZip h z TI TO f
  ti : IsPair h TI (.ref i1) (.ref i2)
  to : ∃ a b, IsPair h TO a b
  n1 : h.IsTupleIter i1 t1 k
  n2 : h.IsTupleIter i2 t2 k
  g1 : h.IsTuple t1 vs
  g2 : h.IsTuple t2 us
theorem ndA {a b : Nat} (h : a < b \/ b < a) : a ≠ b := by omega
theorem itAt {h h' : Heap} {it t : Addr} {i : Nat} (x : h.IsTupleIter it t i) (k : ∀ o, h.get? it = some o -> h'.get? it = some o) : h'.IsTupleIter it t i := let ⟨o, ho, r⟩ := x; ⟨o, k o ho, r⟩
theorem tpAt {h h' : Heap} {t : Addr} {vs : Array Value} (x : h.IsTuple t vs) (k : ∀ o, h.get? t = some o -> h'.get? t = some o) : h'.IsTuple t vs := let ⟨o, ho, r⟩ := x; ⟨o, k o ho, r⟩
theorem zipNext_yes {z TI TO i1 i2 t1 t2 : Addr} {k : Nat} {vs us : Array Value} {x y : Value} {Q : Option Value -> Shared -> Prop} (D : ZAp z TI TO i1 i2 t1 t2) (S : ZSt s.heap z TI TO i1 i2 t1 t2 k vs us .none) (hx : vs[k]? = some x) (hy : us[k]? = some y)
    (q : ∀ h', ZSt h' z TI TO i1 i2 t1 t2 (k + 1) vs us (rawInt s.heap.objs.size) -> IsPair h' s.heap.objs.size x y -> (∀ c o, c ≠ z -> c ≠ TO -> c ≠ i1 -> c ≠ i2 -> s.heap.get? c = some o -> h'.get? c = some o) -> Q (some (.ref s.heap.objs.size)) { s with heap := h' }) :
    wpAny (model prog w) A (pyNext (.ref z)) Q E s := by
  obtain ⟨zz, ti, ⟨a, b, to⟩, n1, n2, g1, g2⟩ := S
  have ty : s.TypeIs (.ref z) "zip" := ⟨_, zz, rfl⟩
  unfold pyNext
  refine wpAny_bind (wpAny_attempt (wpAny_callSpecial?_slot (name := Str.ofString "__next__") ty F.slot_zip_next (wpAny_call_entry F.slot_zip_next ty F.entry_zip_next ?_ (F.args_zip_next_1 _))))
  show wpAny _ _ (field (.ref z) 2 >>= _) _ _ _
  refine wpAny_bind (wpAny_field zz rfl (x := .bool false) rfl (show wpAny _ _ (field (.ref z) 3 >>= _) _ _ _ from wpAny_bind (wpAny_field zz rfl (x := .ref TI) rfl (wpAny_bind (wpAny_seqItems ti rfl ?_)))))
  refine wpAny_bind (show wpAny _ _ (Builtin.SmallTypes.ownedTupleIsFree (.ref z)) _ _ _ from ?_)
  unfold Builtin.SmallTypes.ownedTupleIsFree
  refine wpAny_bind (wpAny_field zz rfl (x := .none) rfl (wpAny_pure ?_))
  simp only [if_true]
  refine wpAny_bind (wpAny_rule (wpAny_bind (wpAny_field zz rfl (x := .ref TO) rfl (wpAny_bind (wpAny_setField_rec zz (by simp) fun u1 z1 k1 => ?_)))))
  have e1 : ∀ c o, c ≠ z -> s.heap.get? c = some o -> u1.get? c = some o := k1.extBut
  have m1 : u1.objs.size = s.heap.objs.size := k1.1
  refine wpAny_bind ?_
  simp only [List.zipIdx_nil, List.zipIdx_cons, List.forIn_nil, List.forIn_cons]
  refine wpAny_bind (wpAny_bind (wpAny_onRaise (show wpAny _ _ (Builtin.SmallTypes.nextOf (.ref i1) >>= _) _ _ _ from wpAny_bind (tupNext_yes (itAt n1 fun o => e1 i1 o D.a3) (tpAt g1 fun o => e1 t1 o D.c1) hx fun u2 j1 k2 => wpAny_pure ?_))))
  have e2 : ∀ c o, c ≠ z -> c ≠ i1 -> s.heap.get? c = some o -> u2.get? c = some o := fun c o h1 h2 e => k2.extBut c o h2 (e1 c o h1 e)
  have z2 := k2.extBut _ _ D.a3.symm z1
  have to2 : IsPair u2 TO a b := e2 _ _ D.a2 D.a8 to
  refine wpAny_bind (wpAny_seqItems to2 rfl (wpAny_bind (wpAny_updateSeq_pair to2 fun u3 to3 k3 => wpAny_bind (wpAny_letGo (wpAny_pure ?_)))))
  have to3' : IsPair u3 TO x b := to3
  have e3 : ∀ c o, c ≠ z -> c ≠ i1 -> c ≠ TO -> s.heap.get? c = some o -> u3.get? c = some o := fun c o h1 h2 h3 e => k3.extBut c o h3 (e2 c o h1 h2 e)
  have z3 := k3.extBut _ _ D.a2.symm z2
  refine wpAny_bind (wpAny_bind (wpAny_onRaise (show wpAny _ _ (Builtin.SmallTypes.nextOf (.ref i2) >>= _) _ _ _ from wpAny_bind (tupNext_yes (itAt n2 fun o => e3 i2 o D.a4 D.b1.symm D.a9.symm) (tpAt g2 fun o => e3 t2 o D.d1 D.d3 D.d2) hy fun u4 j2 k4 => wpAny_pure ?_))))
  have to4 : IsPair u4 TO x b := k4.extBut _ _ D.a9 to3'
  refine wpAny_bind (wpAny_seqItems to4 rfl (wpAny_bind (wpAny_updateSeq_pair to4 fun u5 to5 k5 => wpAny_bind (wpAny_letGo (wpAny_pure (wpAny_pure ?_))))))
  have to5' : IsPair u5 TO x y := to5
  have e5 : ∀ c o, c ≠ z -> c ≠ i1 -> c ≠ TO -> c ≠ i2 -> s.heap.get? c = some o -> u5.get? c = some o := fun c o h1 h2 h3 h4 e => k5.extBut c o h3 (k4.extBut c o h4 (e3 c o h1 h2 h3 e))
  have z5 := k5.extBut _ _ D.a2.symm (k4.extBut _ _ D.a4.symm z3)
  have m5 : u5.objs.size = s.heap.objs.size := by rw [k5.1, k4.1, k3.1, k2.1, m1]
  have lz : z < s.heap.objs.size := Heap.lt_size zz
  refine wpAny_bind (wpAny_seqItems to5' rfl (wpAny_bind (wpAny_newTuple ?_)))
  refine wpAny_bind (show wpAny _ _ (Builtin.SmallTypes.ownedTupleHandOut (.ref z) (.ref u5.objs.size)) _ _ _ from ?_)
  unfold Builtin.SmallTypes.ownedTupleHandOut
  have z6 := Heap.get?_push_of_some { cls := .type "tuple", data := .seq #[x, y] } z5
  refine wpAny_bind (wpAny_setField_rec z6 (by simp) fun u7 z7 k7 => wpAny_setField_rec z7 (by simp) fun u8 z8 k8 => wpAny_pure ⟨_, rfl, ?_⟩)
  have e8 : ∀ c o, c ≠ z -> u5.get? c = some o -> u8.get? c = some o := fun c o h e => k8.extBut c o h (k7.extBut c o h (Heap.get?_push_of_some _ e))
  have p8 : IsPair u8 u5.objs.size x y := k8.extBut _ _ (by rw [m5]; exact Nat.ne_of_gt lz) (k7.extBut _ _ (by rw [m5]; exact Nat.ne_of_gt lz) (Heap.get?_push_size _ rfl))
  refine wpAny_pure ?_
  show Q (some (.ref u5.objs.size)) { s with heap := u8 }
  have z8' : IsZip u8 z TI TO (rawInt u5.objs.size) := z8
  rw [m5] at p8 z8' ⊢
  refine q u8 ⟨z8', e8 _ _ D.a1 (e5 _ _ D.a1 D.a6 D.a5 D.a7 ti), ⟨x, y, e8 _ _ D.a2 to5'⟩, ?_, ?_, tpAt g1 fun o e => e8 _ _ D.c1 (e5 _ _ D.c1 D.c3 D.c2 D.c4 e), tpAt g2 fun o e => e8 _ _ D.d1 (e5 _ _ D.d1 D.d3 D.d2 D.d4 e)⟩ p8 fun c o h1 h2 h3 h4 e => e8 c o h1 (e5 c o h1 h3 h2 h4 e)
  · exact itAt j1 fun o e => e8 _ _ D.a3 (k5.extBut _ _ D.a8.symm (k4.extBut _ _ D.b1 (k3.extBut _ _ D.a8.symm e)))
  · exact itAt j2 fun o e => e8 _ _ D.a4 (k5.extBut _ _ D.a9.symm e)
theorem zipNext_no {z TI TO i1 i2 t1 t2 : Addr} {k : Nat} {vs us : Array Value} {Q : Option Value -> Shared -> Prop} (hh : A.handled = none) (D : ZAp z TI TO i1 i2 t1 t2) (S : ZSt s.heap z TI TO i1 i2 t1 t2 k vs us .none) (hx : vs[k]? = none)
    (q : ∀ h', (∀ c o, c ≠ z -> c ≠ TO -> c ≠ i1 -> c ≠ i2 -> s.heap.get? c = some o -> h'.get? c = some o) -> Q none { s with heap := h' }) : wpAny (model prog w) A (pyNext (.ref z)) Q E s := by
  obtain ⟨zz, ti, ⟨a, b, to⟩, n1, n2, g1, g2⟩ := S
  have ty : s.TypeIs (.ref z) "zip" := ⟨_, zz, rfl⟩
  unfold pyNext
  refine wpAny_bind (wpAny_attempt (wpAny_callSpecial?_slot (name := Str.ofString "__next__") ty F.slot_zip_next (wpAny_call_entry F.slot_zip_next ty F.entry_zip_next ?_ (F.args_zip_next_1 _))))
  show wpAny _ _ (field (.ref z) 2 >>= _) _ _ _
  refine wpAny_bind (wpAny_field zz rfl (x := .bool false) rfl (show wpAny _ _ (field (.ref z) 3 >>= _) _ _ _ from wpAny_bind (wpAny_field zz rfl (x := .ref TI) rfl (wpAny_bind (wpAny_seqItems ti rfl ?_)))))
  refine wpAny_bind (show wpAny _ _ (Builtin.SmallTypes.ownedTupleIsFree (.ref z)) _ _ _ from ?_)
  unfold Builtin.SmallTypes.ownedTupleIsFree
  refine wpAny_bind (wpAny_field zz rfl (x := .none) rfl (wpAny_pure ?_))
  simp only [if_true]
  refine wpAny_bind (wpAny_rule (wpAny_bind (wpAny_field zz rfl (x := .ref TO) rfl (wpAny_bind (wpAny_setField_rec zz (by simp) fun u1 z1 k1 => ?_)))))
  refine wpAny_bind ?_
  simp only [List.zipIdx_nil, List.zipIdx_cons, List.forIn_nil, List.forIn_cons]
  refine wpAny_bind (wpAny_bind (wpAny_onRaise (show wpAny _ _ (Builtin.SmallTypes.nextOf (.ref i1) >>= _) _ _ _ from wpAny_bind (tupNext_no hh (itAt n1 fun o => k1.extBut i1 o D.a3) (tpAt g1 fun o => k1.extBut t1 o D.c1) hx fun u2 e k2 he => ?_))))
  obtain ⟨oe, hoe, hce⟩ := he
  have z2 := k2 _ _ D.a3.symm z1
  have nz : e ≠ z := fun c => by
    subst c
    rw [z2] at hoe
    cases hoe
    simp at hce
  refine wpAny_setField_rec z2 (by simp) fun u3 _ k3 => ?_
  refine wpAny_bind (wpAny_isInstance (T := "StopIteration") (b := true) ⟨oe, k3.extBut _ _ nz hoe, hce⟩ isSubtype_stop (wpAny_pure (q u3 fun c o h1 _ h3 _ e => k3.extBut _ _ h1 (k2 _ _ h3 (k1.extBut _ _ h1 e)))))
theorem zipMake (l1 l2 : Addr) (vs us : Array Value) :
    Meets (Builtin.«zip.__new__» ⟨[.type "zip", .ref l1, .ref l2], []⟩) (fun _ R s => s.heap.IsTuple l1 vs /\ s.heap.IsTuple l2 us /\
      ∀ h0 h1 h2 h3 h4 h5, h0 = s.heap -> h1 = h0.push { cls := .type "tuple_iterator", data := .fields #[.ref l1, .int 0 0] } -> h2 = h1.push { cls := .type "tuple_iterator", data := .fields #[.ref l2, .int 0 0] } -> h3 = h2.push { cls := .type "tuple", data := .seq #[.ref h0.objs.size, .ref h1.objs.size] } ->
        h4 = h3.push { cls := .type "tuple", data := .seq #[.none, .none] } -> h5 = h4.push { cls := .type "zip", data := .fields #[.none, .bool false, .bool false, .ref h2.objs.size, .ref h3.objs.size] } -> R (.ok (.ret (.ref h4.objs.size))) { s with heap := h5 }) :=
  .of_wp fun prog w A R s h => by
    obtain ⟨hp, g, d, tk, os⟩ := s
    obtain ⟨hl1, hl2, h⟩ := h
    have hsub := sub_zip
    have hL1 : Heap.IsTuple (Shared.heap ⟨hp, g, d, tk, os⟩) l1 vs := hl1
    have hL2 : Heap.IsTuple (Shared.heap ⟨hp.push { cls := .type "tuple_iterator", data := .fields #[.ref l1, .int 0 0] }, g, d, tk, os⟩) l2 us := Heap.IsTuple.push hl2 _
    have h := h _ _ _ _ _ _ rfl rfl rfl rfl rfl rfl
    wp_walk using wpAny_pyIter_tuple hL1, wpAny_pyIter_tuple hL2
    exact ⟨_, rfl, h⟩
theorem zipCall {l1 l2 : Addr} {vs us : Array Value} {Q : Value -> Shared -> Prop} (g1 : s.heap.IsTuple l1 vs) (g2 : s.heap.IsTuple l2 us)
    (q : ∀ h', ZSt h' (s.heap.objs.size + 4) (s.heap.objs.size + 2) (s.heap.objs.size + 3) s.heap.objs.size (s.heap.objs.size + 1) l1 l2 0 vs us .none -> (∀ c o, s.heap.get? c = some o -> h'.get? c = some o) -> Q (.ref (s.heap.objs.size + 4)) { s with heap := h' }) :
    wpAny (model prog w) A (call (.type "zip") [.ref l1, .ref l2]) Q E s := by
  refine callType_new F.called_zip (by decide) (F.typeCall_zip_2 _ _) (F.newCall_zip_2 _ _) (fun obj => F.args_object_init_3 obj _ _) F.entry_zip_new (zipMake l1 l2 vs us) ⟨g1, g2, fun h0 h1 h2 h3 h4 h5 e0 e1 e2 e3 e4 e5 => ?_⟩
  have s1 : h1.objs.size = h0.objs.size + 1 := by rw [e1]; exact Heap.size_push ..
  have s2 : h2.objs.size = h0.objs.size + 2 := by rw [e2, Heap.size_push, s1]
  have s3 : h3.objs.size = h0.objs.size + 3 := by rw [e3, Heap.size_push, s2]
  have s4 : h4.objs.size = h0.objs.size + 4 := by rw [e4, Heap.size_push, s3]
  have k1 : ∀ c o, h0.get? c = some o -> h1.get? c = some o := fun c o e => by rw [e1]; exact Heap.get?_push_of_some _ e
  have k2 : ∀ c o, h1.get? c = some o -> h2.get? c = some o := fun c o e => by rw [e2]; exact Heap.get?_push_of_some _ e
  have k3 : ∀ c o, h2.get? c = some o -> h3.get? c = some o := fun c o e => by rw [e3]; exact Heap.get?_push_of_some _ e
  have k4 : ∀ c o, h3.get? c = some o -> h4.get? c = some o := fun c o e => by rw [e4]; exact Heap.get?_push_of_some _ e
  have k5 : ∀ c o, h4.get? c = some o -> h5.get? c = some o := fun c o e => by rw [e5]; exact Heap.get?_push_of_some _ e
  have p5 : h5.get? h4.objs.size = some { cls := .type "zip", data := .fields #[.none, .bool false, .bool false, .ref h2.objs.size, .ref h3.objs.size] } := by rw [e5]; exact Heap.get?_push_size _ rfl
  have p4 : h5.get? h3.objs.size = some { cls := .type "tuple", data := .seq #[.none, .none] } := k5 _ _ (by rw [e4]; exact Heap.get?_push_size _ rfl)
  have p3 : h5.get? h2.objs.size = some { cls := .type "tuple", data := .seq #[.ref h0.objs.size, .ref h1.objs.size] } := k5 _ _ (k4 _ _ (by rw [e3]; exact Heap.get?_push_size _ rfl))
  have p2 : h5.get? h1.objs.size = some { cls := .type "tuple_iterator", data := .fields #[.ref l2, .int 0 0] } := k5 _ _ (k4 _ _ (k3 _ _ (by rw [e2]; exact Heap.get?_push_size _ rfl)))
  have p1 : h5.get? h0.objs.size = some { cls := .type "tuple_iterator", data := .fields #[.ref l1, .int 0 0] } := k5 _ _ (k4 _ _ (k3 _ _ (k2 _ _ (by rw [e1]; exact Heap.get?_push_size _ rfl))))
  have kk : ∀ c o, h0.get? c = some o -> h5.get? c = some o := fun c o e => k5 _ _ (k4 _ _ (k3 _ _ (k2 _ _ (k1 _ _ e))))
  rw [s1] at p2 p3
  rw [s2] at p3 p5
  rw [s3] at p4 p5
  rw [s4] at p5 ⊢
  subst e0
  exact ⟨⟨_, p5, rfl⟩, q h5 ⟨p5, p3, ⟨_, _, p4⟩, ⟨_, p1, rfl, rfl⟩, ⟨_, p2, rfl, rfl⟩, tpAt g1 fun o e => kk _ _ e, tpAt g2 fun o e => kk _ _ e⟩ kk⟩
end
def rZip (xs ys : List V) : Nat -> List V -> Prop := fun i vs => ∃ x y, xs[i]? = some x /\ ys[i]? = some y /\ vs = [x, y]
theorem turn_zipT {P : Program} {w : World} {K : PySem.W.Frag} {elts : List Expr} {m : Nat} {pos : Pos} {z TI TO i1 i2 t1 t2 : Addr} {xs ys : List V} (D : ZAp z TI TO i1 i2 t1 t2) (hl : ys.length = xs.length) :
    Turn P w K (.Tuple elts m pos) (ItW xs.length (fun H => SqT K H t1 xs /\ SqT K H t2 ys) (rZip xs ys)) [z, TI, TO, i1, i2] z (fun i h => IsZip h z TI TO .none /\ IsPair h TI (.ref i1) (.ref i2) /\ (∃ a b, IsPair h TO a b) /\ h.IsTupleIter i1 t1 i /\ h.IsTupleIter i2 t2 i) where
  mem := by simp
  obj := fun i h ⟨zz, ti, ⟨a, b, to⟩, ⟨o1, h1, c1, d1⟩, ⟨o2, h2, c2, d2⟩⟩ c hc => by
    simp only [List.mem_cons, List.mem_nil_iff, or_false] at hc
    rcases hc with rfl | rfl | rfl | rfl | rfl
    · exact ⟨_, zz, fun v q => by cases q⟩
    · exact ⟨_, ti, fun v q => by cases q⟩
    · exact ⟨_, to, fun v q => by cases q⟩
    · exact ⟨o1, h1, fun v q => by rw [d1] at q; cases q⟩
    · exact ⟨o2, h2, fun v q => by rw [d2] at q; cases q⟩
  keep := fun i h h' ⟨zz, ti, ⟨a, b, to⟩, n1, n2⟩ k => ⟨k z (by simp) _ zz, k TI (by simp) _ ti, ⟨a, b, k TO (by simp) _ to⟩, itAt n1 fun o e => k i1 (by simp) o e, itAt n2 fun o e => k i2 (by simp) o e⟩
  item := by
    intro X hP hw hK hc i pins s σ H E I hf ht hg
    obtain ⟨hi, q1, q2⟩ := hg
    subst hP hw hK
    obtain ⟨vs, r1, p1, _⟩ := I.tuple q1
    obtain ⟨us, r2, p2, _⟩ := I.tuple q2
    obtain ⟨x, hx⟩ := some_of_lt hi
    obtain ⟨y, hy⟩ := some_of_lt (show i < ys.length by rw [hl]; exact hi)
    obtain ⟨x', hx', rx⟩ := r1.get hx
    obtain ⟨y', hy', ry⟩ := r2.get hy
    obtain ⟨zz, ti, to, n1, n2⟩ := ht
    refine zipNext_yes (x := x') (y := y') D ⟨zz, ti, to, n1, n2, p1, p2⟩ (by simpa using hx') (by simpa using hy') fun h1 S1 pr k1 => ?_
    refine ⟨_, rfl, wpAny_letOwnedTupleGo_zip S1.zz fun h2 z2 k2 => ?_⟩
    have lt : ∀ {c : Addr} {o : Obj}, s.heap.get? c = some o -> s.heap.objs.size ≠ c := fun e => Nat.ne_of_gt (Heap.lt_size e)
    have e2 : ∀ c o, c ∉ [z, TO, i1, i2] -> s.heap.get? c = some o -> h2.get? c = some o := fun c o hc e => by
      simp only [List.mem_cons, List.mem_nil_iff, or_false, not_or] at hc
      exact k2.extBut _ _ hc.1 (k1 c o hc.1 hc.2.1 hc.2.2.1 hc.2.2.2 e)
    have tp : IsTup h2 s.heap.objs.size [x', y'].toArray := ⟨_, k2.extBut _ _ (lt zz) pr, rfl, _, rfl⟩
    refine ⟨.ref s.heap.objs.size, upd H s.heap.objs.size (.tup [x, y]), I.turnedT (wr := [z, TO, i1, i2]) e2 (fun b hb => hf b ?_) (Nat.le_refl _) (by show 2 <= sizeLine; decide) (.cons rx (.cons ry .nil)) tp, rfl, ⟨_, _, rfl, I.hok.fresh (Nat.le_refl _), ⟨x, y, hx, hy, rfl⟩, rfl⟩, ?_, fun b hb => ?_⟩
    · simp only [List.mem_cons, List.mem_nil_iff, or_false] at hb ⊢
      rcases hb with h | h | h | h
      · exact .inl h
      · exact .inr (.inr (.inl h))
      · exact .inr (.inr (.inr (.inl h)))
      · exact .inr (.inr (.inr (.inr h)))
    · obtain ⟨a, b, to1⟩ := S1.to
      exact ⟨z2, k2.extBut _ _ D.a1 S1.ti, ⟨a, b, k2.extBut _ _ D.a2 to1⟩, itAt S1.n1 fun o e => k2.extBut _ _ D.a3 e, itAt S1.n2 fun o e => k2.extBut _ _ D.a4 e⟩
    · obtain ⟨a', b', to0⟩ := to
      obtain ⟨o1, ho1, _⟩ := n1
      obtain ⟨o2, ho2, _⟩ := n2
      have f := (hf b hb).1
      simp only [List.mem_cons, List.mem_nil_iff, or_false] at hb
      rw [upd_ne]
      · exact f
      · rcases hb with rfl | rfl | rfl | rfl | rfl
        · exact (lt zz).symm
        · exact (lt ti).symm
        · exact (lt to0).symm
        · exact (lt ho1).symm
        · exact (lt ho2).symm
  done := by
    intro X hP hw hK hc i pins s σ H E I hf ht hg
    obtain ⟨hi, q1, q2⟩ := hg
    subst hP hw hK hi
    obtain ⟨vs, r1, p1, _⟩ := I.tuple q1
    obtain ⟨us, r2, p2, _⟩ := I.tuple q2
    obtain ⟨zz, ti, to, n1, n2⟩ := ht
    have hl1 := r1.length
    refine zipNext_no (I.ok.hd hc) D ⟨zz, ti, to, n1, n2, p1, p2⟩ (by simp; omega) fun h1 k1 => ⟨rfl, I.turnedL (t' := s.toks) (wr := [z, TO, i1, i2]) (fun c o hc e => ?_) fun b hb => hf b ?_⟩
    · simp only [List.mem_cons, List.mem_nil_iff, or_false, not_or] at hc
      exact k1 c o hc.1 hc.2.1 hc.2.2.1 hc.2.2.2 e
    · simp only [List.mem_cons, List.mem_nil_iff, or_false] at hb ⊢
      rcases hb with h | h | h | h
      · exact .inl h
      · exact .inr (.inr (.inl h))
      · exact .inr (.inr (.inr (.inl h)))
      · exact .inr (.inr (.inr (.inr h)))
  self := fun _ _ _ _ _ st h => wpAny_pyIter_zip st.1 h
section
variable {X : Cx} {elts : List Expr} {k : Nat} {tpos : Pos}
def iZip (K : PySem.W.Frag) (ta : TA) : TI := fun σ H R => ta σ H fun vs H1 => ∃ a b xs ys, vs = [.ref a, .ref b] /\ SqT K H1 a xs /\ SqT K H1 b ys /\ ys.length = xs.length /\ R (ItW xs.length (fun H => SqT K H a xs /\ SqT K H b ys) (rZip xs ys)) H1
theorem pi_zipT {a b : Expr} {ta : TA} {p pos : Pos} (hg : Gl X "zip") (hm : X.mg "zip" = none) (ha : PA X [a, b] ta) (hs : starEach [a, b] X.env = [(false, eval a X.env), (false, eval b X.env)] := by rfl) (hs2 : starEach [b] X.env = [(false, eval b X.env)] := by rfl) :
    PI X (.Tuple elts k tpos) (.Call (.Name "zip" p) [a, b] [] pos) (iZip X.K ta) := by
  intro pins s σ H R I h
  refine Call_ (ld_blt I hg hm boot_zip (PyProof.Rows.callWith_type1 (thn (ha pos pins s σ H _ I h) fun us s1 ⟨vs, H1, I1, r1, q1⟩ => ?_) (by rw [hs, hs2]) (by rw [hs2]; rfl)))
  obtain ⟨a, b, xs, ys, e, h1, h2, hl, q⟩ := q1
  subst e
  cases r1 with
  | cons r rr =>
    cases rr with
    | cons r' rr =>
      cases rr
      cases r
      cases r'
      obtain ⟨vs1, _, p1, _⟩ := I1.tuple h1
      obtain ⟨vs2, _, p2, _⟩ := I1.tuple h2
      have la : a < s1.heap.objs.size := let ⟨_, e, _⟩ := p1; Heap.lt_size e
      have lb : b < s1.heap.objs.size := let ⟨_, e, _⟩ := p2; Heap.lt_size e
      refine zipCall (show s1.heap.IsTuple a vs1.toArray from p1) (show s1.heap.IsTuple b vs2.toArray from p2) fun h' S kp => wpAny_pyIter_zip S.zz ?_
      have I2 : Inv X pins σ H1 { s1 with heap := h' } := I1.kept (t' := s1.toks) kp
      refine ⟨s1.heap.objs.size + 4, [s1.heap.objs.size + 4, s1.heap.objs.size + 2, s1.heap.objs.size + 3, s1.heap.objs.size, s1.heap.objs.size + 1], _, _, H1, rfl, I2, turn_zipT (t1 := a) (t2 := b) ⟨?_, ?_, ?_, ?_, ?_, ?_, ?_, ?_, ?_, ?_, ?_, ?_, ?_, ?_, ?_, ?_, ?_, ?_⟩ hl, ⟨S.zz, S.ti, S.to, S.n1, S.n2⟩, ?fp, q⟩
      case fp =>
       intro b hb
       have hb' : s1.heap.objs.size <= b := by
        simp only [List.mem_cons, List.mem_nil_iff, or_false] at hb
        rcases hb with rfl | rfl | rfl | rfl | rfl
        · exact Nat.le_add_right _ _
        · exact Nat.le_add_right _ _
        · exact Nat.le_add_right _ _
        · exact Nat.le_refl _
        · exact Nat.le_add_right _ _
       exact I1.fpOk hb' (I1.hok.fresh hb')
      all_goals first
        | exact ndA (by omega)
        | exact Nat.ne_of_lt (Nat.lt_of_lt_of_le la (Nat.le_add_right _ _))
        | exact Nat.ne_of_lt (Nat.lt_of_lt_of_le lb (Nat.le_add_right _ _))
        | exact Nat.ne_of_lt la
        | exact Nat.ne_of_lt lb
theorem qi_zipT {a b : Expr} {ta : TA} {p pos : Pos} (hg : Gl X "zip") (hm : X.mg "zip" = none) (ha : QA X [a, b] ta) (hs : starEach [a, b] X.env = [(false, eval a X.env), (false, eval b X.env)] := by rfl) (hs2 : starEach [b] X.env = [(false, eval b X.env)] := by rfl) :
    QI X (.Tuple elts k tpos) (.Call (.Name "zip" p) [a, b] [] pos) (iZip X.K ta) := ⟨pi_zipT hg hm ha.h hs hs2⟩
end
end L2
namespace L2
open PySem PySem.Spec PyProof.Rows
end L2
namespace L2
open PySem PySem.Spec PyProof.Rows
section
variable {prog : Program} {w : World} {A : Around} {E : Value -> Shared -> Prop} {s : Shared}
end
section
variable {X : Cx} {elts : List Expr} {k : Nat} {tpos : Pos}
end
end L2
namespace K07
open PySem L2
set_option genInjectivity false
set_option genSizeOf false
theorem bd1 {K : PySem.W.Frag} {x qual : Str} {st : Stmt} {f : Addr} {fd : FuncData} {ps : List Str} (F : Fun K x qual st f fd) (hl : ps.length = 1) (h : ∀ (kV doc pm : Value) (an : Option Addr) (cdv ct : Value) (a : Value), bindArgs (PySem.W.fnOf x qual (defArgs st) (defBody st) (defScope st) .none kV doc pm an cdv ct) ⟨[a], []⟩ = pure (ps.zip [a])) : Binds K fd ps [] := F.binds fun kV doc pm an cdv ct us e => by
  rw [hl] at e
  match us, e with
  | [a], _ => exact h kV doc pm an cdv ct a
theorem bd2 {K : PySem.W.Frag} {x qual : Str} {st : Stmt} {f : Addr} {fd : FuncData} {ps : List Str} (F : Fun K x qual st f fd) (hl : ps.length = 2) (h : ∀ (kV doc pm : Value) (an : Option Addr) (cdv ct : Value) (a b : Value), bindArgs (PySem.W.fnOf x qual (defArgs st) (defBody st) (defScope st) .none kV doc pm an cdv ct) ⟨[a, b], []⟩ = pure (ps.zip [a, b])) : Binds K fd ps [] := F.binds fun kV doc pm an cdv ct us e => by
  rw [hl] at e
  match us, e with
  | [a, b], _ => exact h kV doc pm an cdv ct a b
theorem bd3 {K : PySem.W.Frag} {x qual : Str} {st : Stmt} {f : Addr} {fd : FuncData} {ps : List Str} (F : Fun K x qual st f fd) (hl : ps.length = 3) (h : ∀ (kV doc pm : Value) (an : Option Addr) (cdv ct : Value) (a b c : Value), bindArgs (PySem.W.fnOf x qual (defArgs st) (defBody st) (defScope st) .none kV doc pm an cdv ct) ⟨[a, b, c], []⟩ = pure (ps.zip [a, b, c])) : Binds K fd ps [] := F.binds fun kV doc pm an cdv ct us e => by
  rw [hl] at e
  match us, e with
  | [a, b, c], _ => exact h kV doc pm an cdv ct a b c
def top (i : Nat) : Stmt := PySem.Challenge.pw_leafsay_k07_terms_refused.main.body.getD i (.Pass ⟨0, 0, 0, 0⟩)
abbrev s_qisnum : Stmt := top 18
abbrev s_qistext : Stmt := top 19
abbrev s_qisrow : Stmt := top 20
abbrev s_qiskind : Stmt := top 21
abbrev s_qisdeed : Stmt := top 22
abbrev s_qisname : Stmt := top 29
abbrev s_qisnumber : Stmt := top 30
abbrev s_qreadvalue : Stmt := top 31
abbrev s_qpieces : Stmt := top 33
abbrev s_qinit : Stmt := inClass (top 34) 0
abbrev s_qaddrow : Stmt := inClass (top 34) 1
abbrev s_qbegin : Stmt := inClass (top 34) 2
abbrev s_qendword : Stmt := inClass (top 34) 3
abbrev s_qcountin : Stmt := inClass (top 34) 4
abbrev s_qclosebracket : Stmt := inClass (top 34) 5
abbrev s_qallrows : Stmt := inClass (top 34) 6
abbrev s_qnestrows : Stmt := top 35
abbrev s_qdeepest : Stmt := top 36
abbrev s_qtakenoff : Stmt := top 37
abbrev s_qisquoted : Stmt := top 43
abbrev s_qreadleaf : Stmt := top 44
abbrev s_qmadecall : Stmt := top 45
abbrev s_qreadterm : Stmt := top 46
abbrev s_qdeed : Stmt := top 48
abbrev s_qword : Stmt := top 49
abbrev s_qname : Stmt := top 50
abbrev s_qleaf : Stmt := top 51
abbrev s_qcall : Stmt := top 52
abbrev s_qlines : Stmt := top 53
abbrev s_qedited : Stmt := top 54
abbrev s_qwords : Stmt := top 55
abbrev s_qmadeof : Stmt := top 56
abbrev s_qone : Stmt := top 57
abbrev s_qdue : Stmt := top 58
abbrev s_qalike : Stmt := top 59
abbrev s_qtold : Stmt := top 60
abbrev s_qread : Stmt := top 61
abbrev s_qgreat : Stmt := top 62
abbrev s_law : Stmt := top 63
theorem sc_qistext : FnScope ["thing"] ["thing"] (defScope s_qistext) := ⟨rfl, rfl, rfl, by decide +kernel, rfl, by decide +kernel, by decide +kernel⟩
theorem sc_qiskind : FnScope ["kind", "thing"] ["kind", "thing"] (defScope s_qiskind) := ⟨rfl, rfl, rfl, by decide +kernel, rfl, by decide +kernel, by decide +kernel⟩
theorem sc_qisdeed : FnScope ["word"] ["word"] (defScope s_qisdeed) := ⟨rfl, rfl, rfl, by decide +kernel, rfl, by decide +kernel, by decide +kernel⟩
theorem sc_qisname : FnScope ["word"] ["word"] (defScope s_qisname) := ⟨rfl, rfl, rfl, by decide +kernel, rfl, by decide +kernel, by decide +kernel⟩
theorem sc_qisnumber : FnScope ["word"] ["word"] (defScope s_qisnumber) := ⟨rfl, rfl, rfl, by decide +kernel, rfl, by decide +kernel, by decide +kernel⟩
theorem sc_qreadvalue : FnScope ["word"] ["word"] (defScope s_qreadvalue) := ⟨rfl, rfl, rfl, by decide +kernel, rfl, by decide +kernel, by decide +kernel⟩
theorem sc_qpieces : FnScope ["text", "stops", "found", "start", "place", "sign"] ["text", "stops"] (defScope s_qpieces) := ⟨rfl, rfl, rfl, by decide +kernel, rfl, by decide +kernel, by decide +kernel⟩
theorem sc_qinit : FnScope ["self"] ["self"] (defScope s_qinit) := ⟨rfl, rfl, rfl, by decide +kernel, rfl, by decide +kernel, by decide +kernel⟩
theorem sc_qaddrow : FnScope ["self", "word", "count"] ["self", "word", "count"] (defScope s_qaddrow) := ⟨rfl, rfl, rfl, by decide +kernel, rfl, by decide +kernel, by decide +kernel⟩
theorem sc_qbegin : FnScope ["self", "word"] ["self", "word"] (defScope s_qbegin) := ⟨rfl, rfl, rfl, by decide +kernel, rfl, by decide +kernel, by decide +kernel⟩
theorem sc_qendword : FnScope ["self", "word"] ["self", "word"] (defScope s_qendword) := ⟨rfl, rfl, rfl, by decide +kernel, rfl, by decide +kernel, by decide +kernel⟩
theorem sc_qcountin : FnScope ["self"] ["self"] (defScope s_qcountin) := ⟨rfl, rfl, rfl, by decide +kernel, rfl, by decide +kernel, by decide +kernel⟩
theorem sc_qclosebracket : FnScope ["self", "word"] ["self"] (defScope s_qclosebracket) := ⟨rfl, rfl, rfl, by decide +kernel, rfl, by decide +kernel, by decide +kernel⟩
theorem sc_qallrows : FnScope ["self"] ["self"] (defScope s_qallrows) := ⟨rfl, rfl, rfl, by decide +kernel, rfl, by decide +kernel, by decide +kernel⟩
theorem sc_qnestrows : FnScope ["text", "between", "reader", "word", "stop"] ["text", "between"] (defScope s_qnestrows) := ⟨rfl, rfl, rfl, by decide +kernel, rfl, by decide +kernel, by decide +kernel⟩
theorem sc_qdeepest : FnScope ["rows"] ["rows"] (defScope s_qdeepest) := ⟨rfl, rfl, rfl, by decide +kernel, rfl, by decide +kernel, by decide +kernel⟩
theorem sc_qtakenoff : FnScope ["ready", "count", "taken"] ["ready", "count"] (defScope s_qtakenoff) := ⟨rfl, rfl, rfl, by decide +kernel, rfl, by decide +kernel, by decide +kernel⟩
theorem sc_qisquoted : FnScope ["word"] ["word"] (defScope s_qisquoted) := ⟨rfl, rfl, rfl, by decide +kernel, rfl, by decide +kernel, by decide +kernel⟩
theorem sc_qreadleaf : FnScope ["word", "pair"] ["word"] (defScope s_qreadleaf) := ⟨rfl, rfl, rfl, by decide +kernel, rfl, by decide +kernel, by decide +kernel⟩
theorem sc_qmadecall : FnScope ["deed", "terms"] ["deed", "terms"] (defScope s_qmadecall) := ⟨rfl, rfl, rfl, by decide +kernel, rfl, by decide +kernel, by decide +kernel⟩
theorem sc_qreadterm : FnScope ["text", "rows", "ready", "word", "count", "level", "inner"] ["text"] (defScope s_qreadterm) := ⟨rfl, rfl, rfl, by decide +kernel, rfl, by decide +kernel, by decide +kernel⟩
theorem sc_qdeed : FnScope ["_law_cell"] ["_law_cell"] (defScope s_qdeed) := ⟨rfl, rfl, rfl, by decide +kernel, rfl, by decide +kernel, by decide +kernel⟩
theorem sc_qword : FnScope ["_law_cell", "_law_letters", "_law_long", "_law_at", "_law_same"] ["_law_cell"] (defScope s_qword) := ⟨rfl, rfl, rfl, by decide +kernel, rfl, by decide +kernel, by decide +kernel⟩
theorem sc_qname : FnScope ["_law_cell", "_law_words_here"] ["_law_cell"] (defScope s_qname) := ⟨rfl, rfl, rfl, by decide +kernel, rfl, by decide +kernel, by decide +kernel⟩
theorem sc_qleaf : FnScope ["_law_cell", "_law_signs", "_law_mixed", "_law_way", "_law_many", "_law_word_here"] ["_law_cell"] (defScope s_qleaf) := ⟨rfl, rfl, rfl, by decide +kernel, rfl, by decide +kernel, by decide +kernel⟩
theorem sc_qcall : FnScope ["_law_cell", "_law_some", "_law_told_here"] ["_law_cell", "_law_some"] (defScope s_qcall) := ⟨rfl, rfl, rfl, by decide +kernel, rfl, by decide +kernel, by decide +kernel⟩
theorem sc_qlines : FnScope ["_law_cells", "_law_most", "_law_deepest", "_law_made", "_law_cell", "_law_many", "_law_one_here", "_law_call_here"] ["_law_cells", "_law_most", "_law_deepest"] (defScope s_qlines) := ⟨rfl, rfl, rfl, by decide +kernel, rfl, by decide +kernel, by decide +kernel⟩
theorem sc_qedited : FnScope ["_law_line", "_law_cell", "_law_few", "_law_signs", "_law_number", "_law_other", "_law_at", "_law_sign"] ["_law_line", "_law_cell"] (defScope s_qedited) := ⟨rfl, rfl, rfl, by decide +kernel, rfl, by decide +kernel, by decide +kernel⟩
theorem sc_qwords : FnScope ["_law_line", "_law_found", "_law_word_here", "_law_sign"] ["_law_line"] (defScope s_qwords) := ⟨rfl, rfl, rfl, by decide +kernel, rfl, by decide +kernel, by decide +kernel⟩
theorem sc_qmadeof : FnScope ["_law_word_here", "_law_signs", "_law_sign"] ["_law_word_here", "_law_signs"] (defScope s_qmadeof) := ⟨rfl, rfl, rfl, by decide +kernel, rfl, by decide +kernel, by decide +kernel⟩
theorem sc_qone : FnScope ["_law_row", "_law_at", "_law_word_here", "_law_ahead", "_law_name_here"] ["_law_row", "_law_at"] (defScope s_qone) := ⟨rfl, rfl, rfl, by decide +kernel, rfl, by decide +kernel, by decide +kernel⟩
theorem sc_qdue : FnScope ["_law_line", "_law_row", "_law_calls", "_law_at", "_law_one_here", "_law_term", "_law_call_here"] ["_law_line"] (defScope s_qdue) := ⟨rfl, rfl, rfl, by decide +kernel, rfl, by decide +kernel, by decide +kernel⟩
theorem sc_qalike : FnScope ["_law_found", "_law_due_here", "_law_one_here", "_law_other"] ["_law_found", "_law_due_here"] (defScope s_qalike) := ⟨rfl, rfl, rfl, by decide +kernel, rfl, by decide +kernel, by decide +kernel⟩
theorem sc_qtold : FnScope ["_law_line", "_law_found", "_law_way", "_law_good", "e"] ["_law_line"] (defScope s_qtold) := ⟨rfl, rfl, rfl, by decide +kernel, rfl, by decide +kernel, by decide +kernel⟩
theorem sc_qread : FnScope ["_law_line", "_law_great_here", "_law_told_here", "_law_due_here"] ["_law_line", "_law_great_here"] (defScope s_qread) := ⟨rfl, rfl, rfl, by decide +kernel, rfl, by decide +kernel, by decide +kernel⟩
theorem sc_qgreat : FnScope ["_law_cell", "_law_leaf_here", "_law_other", "_law_four", "_law_many", "_law_one_here", "_law_k", "_law_great_here"] ["_law_cell", "_law_leaf_here", "_law_other"] (defScope s_qgreat) := ⟨rfl, rfl, rfl, by decide +kernel, rfl, by decide +kernel, by decide +kernel⟩
theorem sc_law : FnScope ["_law_script", "_law_cells", "_law_lines_here", "_law_k", "_law_leaf_here", "_law_other", "_law_great_here", "_law_deep", "_law_one_here"] ["_law_script"] (defScope s_law) := ⟨rfl, rfl, rfl, by decide +kernel, rfl, by decide +kernel, by decide +kernel⟩
structure Adr where
  qisnum : Addr
  d_qisnum : FuncData
  qistext : Addr
  d_qistext : FuncData
  qisrow : Addr
  d_qisrow : FuncData
  qiskind : Addr
  d_qiskind : FuncData
  qisdeed : Addr
  d_qisdeed : FuncData
  qisname : Addr
  d_qisname : FuncData
  qisnumber : Addr
  d_qisnumber : FuncData
  qreadvalue : Addr
  d_qreadvalue : FuncData
  qpieces : Addr
  d_qpieces : FuncData
  qinit : Addr
  d_qinit : FuncData
  qaddrow : Addr
  d_qaddrow : FuncData
  qbegin : Addr
  d_qbegin : FuncData
  qendword : Addr
  d_qendword : FuncData
  qcountin : Addr
  d_qcountin : FuncData
  qclosebracket : Addr
  d_qclosebracket : FuncData
  qallrows : Addr
  d_qallrows : FuncData
  qnestrows : Addr
  d_qnestrows : FuncData
  qdeepest : Addr
  d_qdeepest : FuncData
  qtakenoff : Addr
  d_qtakenoff : FuncData
  qisquoted : Addr
  d_qisquoted : FuncData
  qreadleaf : Addr
  d_qreadleaf : FuncData
  qmadecall : Addr
  d_qmadecall : FuncData
  qreadterm : Addr
  d_qreadterm : FuncData
  qdeed : Addr
  d_qdeed : FuncData
  qword : Addr
  d_qword : FuncData
  qname : Addr
  d_qname : FuncData
  qleaf : Addr
  d_qleaf : FuncData
  qcall : Addr
  d_qcall : FuncData
  qlines : Addr
  d_qlines : FuncData
  qedited : Addr
  d_qedited : FuncData
  qwords : Addr
  d_qwords : FuncData
  qmadeof : Addr
  d_qmadeof : FuncData
  qone : Addr
  d_qone : FuncData
  qdue : Addr
  d_qdue : FuncData
  qalike : Addr
  d_qalike : FuncData
  qtold : Addr
  d_qtold : FuncData
  qread : Addr
  d_qread : FuncData
  qgreat : Addr
  d_qgreat : FuncData
  law : Addr
  d_law : FuncData
  t_LIMIT : Tok
  t_MOST_SIGNS : Tok
  t_MOST_NUMS : Tok
  t_MOST_LETTERS : Tok
  t_MOST_FIGURES : Tok
  t_MOST_PARTS : Tok
  t_MOST_DEPTH : Tok
  t_MOST_TERMS : Tok
  t_SIGNS : Tok
  t_LETTERS : Tok
  t_FIGURES : Tok
  t_PLACES : Tok
  t_QUOTE : Tok
  k_LeafError : Addr
  k_NoText : Addr
  k_TooGreat : Addr
  k_NoName : Addr
  k_NoRule : Addr
  k_NoKind : Addr
  k_NoTree : Addr
  k_NoPlace : Addr
  k_NoGiven : Addr
  k_NoWalk : Addr
  k_Ring : Addr
  k_NestReader : Addr
  a_NEEDS : Addr
  NEEDS_0 : Addr
  NEEDS_1 : Addr
  NEEDS_2 : Addr
  NEEDS_3 : Addr
  NEEDS_4 : Addr
  NEEDS_5 : Addr
  NEEDS_6 : Addr
  NEEDS_7 : Addr
  NEEDS_8 : Addr
  NEEDS_9 : Addr
  NEEDS_10 : Addr
structure Tx (K : PySem.W.Frag) (w : World) (mg : Str -> Option Value) (T : Adr) : Prop where
  F_qisnum : Fun K "is_num" "is_num" s_qisnum T.qisnum T.d_qisnum
  b_qisnum : Binds K T.d_qisnum ["thing"] []
  m_qisnum : mg "is_num" = some (.ref T.qisnum)
  F_qistext : Fun K "is_text" "is_text" s_qistext T.qistext T.d_qistext
  b_qistext : Binds K T.d_qistext ["thing"] []
  m_qistext : mg "is_text" = some (.ref T.qistext)
  F_qisrow : Fun K "is_row" "is_row" s_qisrow T.qisrow T.d_qisrow
  b_qisrow : Binds K T.d_qisrow ["thing"] []
  m_qisrow : mg "is_row" = some (.ref T.qisrow)
  F_qiskind : Fun K "is_kind" "is_kind" s_qiskind T.qiskind T.d_qiskind
  b_qiskind : Binds K T.d_qiskind ["kind", "thing"] []
  m_qiskind : mg "is_kind" = some (.ref T.qiskind)
  F_qisdeed : Fun K "is_deed" "is_deed" s_qisdeed T.qisdeed T.d_qisdeed
  b_qisdeed : Binds K T.d_qisdeed ["word"] []
  m_qisdeed : mg "is_deed" = some (.ref T.qisdeed)
  F_qisname : Fun K "is_name" "is_name" s_qisname T.qisname T.d_qisname
  b_qisname : Binds K T.d_qisname ["word"] []
  m_qisname : mg "is_name" = some (.ref T.qisname)
  F_qisnumber : Fun K "is_number" "is_number" s_qisnumber T.qisnumber T.d_qisnumber
  b_qisnumber : Binds K T.d_qisnumber ["word"] []
  m_qisnumber : mg "is_number" = some (.ref T.qisnumber)
  F_qreadvalue : Fun K "read_value" "read_value" s_qreadvalue T.qreadvalue T.d_qreadvalue
  b_qreadvalue : Binds K T.d_qreadvalue ["word"] []
  m_qreadvalue : mg "read_value" = some (.ref T.qreadvalue)
  F_qpieces : Fun K "pieces" "pieces" s_qpieces T.qpieces T.d_qpieces
  b_qpieces : Binds K T.d_qpieces ["text", "stops"] []
  m_qpieces : mg "pieces" = some (.ref T.qpieces)
  F_qinit : Fun K "__init__" "NestReader.__init__" s_qinit T.qinit T.d_qinit
  b_qinit : Binds K T.d_qinit ["self"] []
  h_qinit : Meth K T.k_NestReader "__init__" T.qinit
  F_qaddrow : Fun K "add_row" "NestReader.add_row" s_qaddrow T.qaddrow T.d_qaddrow
  b_qaddrow : Binds K T.d_qaddrow ["self", "word", "count"] []
  h_qaddrow : Meth K T.k_NestReader "add_row" T.qaddrow
  F_qbegin : Fun K "begin" "NestReader.begin" s_qbegin T.qbegin T.d_qbegin
  b_qbegin : Binds K T.d_qbegin ["self", "word"] []
  h_qbegin : Meth K T.k_NestReader "begin" T.qbegin
  F_qendword : Fun K "end_word" "NestReader.end_word" s_qendword T.qendword T.d_qendword
  b_qendword : Binds K T.d_qendword ["self", "word"] []
  h_qendword : Meth K T.k_NestReader "end_word" T.qendword
  F_qcountin : Fun K "count_in" "NestReader.count_in" s_qcountin T.qcountin T.d_qcountin
  b_qcountin : Binds K T.d_qcountin ["self"] []
  h_qcountin : Meth K T.k_NestReader "count_in" T.qcountin
  F_qclosebracket : Fun K "close_bracket" "NestReader.close_bracket" s_qclosebracket T.qclosebracket T.d_qclosebracket
  b_qclosebracket : Binds K T.d_qclosebracket ["self"] []
  h_qclosebracket : Meth K T.k_NestReader "close_bracket" T.qclosebracket
  F_qallrows : Fun K "all_rows" "NestReader.all_rows" s_qallrows T.qallrows T.d_qallrows
  b_qallrows : Binds K T.d_qallrows ["self"] []
  h_qallrows : Meth K T.k_NestReader "all_rows" T.qallrows
  F_qnestrows : Fun K "nest_rows" "nest_rows" s_qnestrows T.qnestrows T.d_qnestrows
  b_qnestrows : Binds K T.d_qnestrows ["text", "between"] []
  m_qnestrows : mg "nest_rows" = some (.ref T.qnestrows)
  F_qdeepest : Fun K "deepest" "deepest" s_qdeepest T.qdeepest T.d_qdeepest
  b_qdeepest : Binds K T.d_qdeepest ["rows"] []
  m_qdeepest : mg "deepest" = some (.ref T.qdeepest)
  F_qtakenoff : Fun K "taken_off" "taken_off" s_qtakenoff T.qtakenoff T.d_qtakenoff
  b_qtakenoff : Binds K T.d_qtakenoff ["ready", "count"] []
  m_qtakenoff : mg "taken_off" = some (.ref T.qtakenoff)
  F_qisquoted : Fun K "is_quoted" "is_quoted" s_qisquoted T.qisquoted T.d_qisquoted
  b_qisquoted : Binds K T.d_qisquoted ["word"] []
  m_qisquoted : mg "is_quoted" = some (.ref T.qisquoted)
  F_qreadleaf : Fun K "read_leaf" "read_leaf" s_qreadleaf T.qreadleaf T.d_qreadleaf
  b_qreadleaf : Binds K T.d_qreadleaf ["word"] []
  m_qreadleaf : mg "read_leaf" = some (.ref T.qreadleaf)
  F_qmadecall : Fun K "made_call" "made_call" s_qmadecall T.qmadecall T.d_qmadecall
  b_qmadecall : Binds K T.d_qmadecall ["deed", "terms"] []
  m_qmadecall : mg "made_call" = some (.ref T.qmadecall)
  F_qreadterm : Fun K "read_term" "read_term" s_qreadterm T.qreadterm T.d_qreadterm
  b_qreadterm : Binds K T.d_qreadterm ["text"] []
  m_qreadterm : mg "read_term" = some (.ref T.qreadterm)
  F_qdeed : Fun K "_law_deed" "_law_deed" s_qdeed T.qdeed T.d_qdeed
  b_qdeed : Binds K T.d_qdeed ["_law_cell"] []
  m_qdeed : mg "_law_deed" = some (.ref T.qdeed)
  F_qword : Fun K "_law_word" "_law_word" s_qword T.qword T.d_qword
  b_qword : Binds K T.d_qword ["_law_cell"] []
  m_qword : mg "_law_word" = some (.ref T.qword)
  F_qname : Fun K "_law_name" "_law_name" s_qname T.qname T.d_qname
  b_qname : Binds K T.d_qname ["_law_cell"] []
  m_qname : mg "_law_name" = some (.ref T.qname)
  F_qleaf : Fun K "_law_leaf" "_law_leaf" s_qleaf T.qleaf T.d_qleaf
  b_qleaf : Binds K T.d_qleaf ["_law_cell"] []
  m_qleaf : mg "_law_leaf" = some (.ref T.qleaf)
  F_qcall : Fun K "_law_call" "_law_call" s_qcall T.qcall T.d_qcall
  b_qcall : Binds K T.d_qcall ["_law_cell", "_law_some"] []
  m_qcall : mg "_law_call" = some (.ref T.qcall)
  F_qlines : Fun K "_law_lines" "_law_lines" s_qlines T.qlines T.d_qlines
  b_qlines : Binds K T.d_qlines ["_law_cells", "_law_most", "_law_deepest"] []
  m_qlines : mg "_law_lines" = some (.ref T.qlines)
  F_qedited : Fun K "_law_edited" "_law_edited" s_qedited T.qedited T.d_qedited
  b_qedited : Binds K T.d_qedited ["_law_line", "_law_cell"] []
  m_qedited : mg "_law_edited" = some (.ref T.qedited)
  F_qwords : Fun K "_law_words" "_law_words" s_qwords T.qwords T.d_qwords
  b_qwords : Binds K T.d_qwords ["_law_line"] []
  m_qwords : mg "_law_words" = some (.ref T.qwords)
  F_qmadeof : Fun K "_law_made_of" "_law_made_of" s_qmadeof T.qmadeof T.d_qmadeof
  b_qmadeof : Binds K T.d_qmadeof ["_law_word_here", "_law_signs"] []
  m_qmadeof : mg "_law_made_of" = some (.ref T.qmadeof)
  F_qone : Fun K "_law_one" "_law_one" s_qone T.qone T.d_qone
  b_qone : Binds K T.d_qone ["_law_row", "_law_at"] []
  m_qone : mg "_law_one" = some (.ref T.qone)
  F_qdue : Fun K "_law_due" "_law_due" s_qdue T.qdue T.d_qdue
  b_qdue : Binds K T.d_qdue ["_law_line"] []
  m_qdue : mg "_law_due" = some (.ref T.qdue)
  F_qalike : Fun K "_law_alike" "_law_alike" s_qalike T.qalike T.d_qalike
  b_qalike : Binds K T.d_qalike ["_law_found", "_law_due_here"] []
  m_qalike : mg "_law_alike" = some (.ref T.qalike)
  F_qtold : Fun K "_law_told" "_law_told" s_qtold T.qtold T.d_qtold
  b_qtold : Binds K T.d_qtold ["_law_line"] []
  m_qtold : mg "_law_told" = some (.ref T.qtold)
  F_qread : Fun K "_law_read" "_law_read" s_qread T.qread T.d_qread
  b_qread : Binds K T.d_qread ["_law_line", "_law_great_here"] []
  m_qread : mg "_law_read" = some (.ref T.qread)
  F_qgreat : Fun K "_law_great" "_law_great" s_qgreat T.qgreat T.d_qgreat
  b_qgreat : Binds K T.d_qgreat ["_law_cell", "_law_leaf_here", "_law_other"] []
  m_qgreat : mg "_law_great" = some (.ref T.qgreat)
  F_law : Fun K "law" "law" s_law T.law T.d_law
  b_law : Binds K T.d_law ["_law_script"] []
  m_law : mg "law" = some (.ref T.law)
  z_ValueError : mg "ValueError" = none
  z_all : mg "all" = none
  z_bool : mg "bool" = none
  z_enumerate : mg "enumerate" = none
  z_int : mg "int" = none
  z_isinstance : mg "isinstance" = none
  z_len : mg "len" = none
  z_max : mg "max" = none
  z_min : mg "min" = none
  z_range : mg "range" = none
  z_reversed : mg "reversed" = none
  z_str : mg "str" = none
  z_sum : mg "sum" = none
  z_tuple : mg "tuple" = none
  z_zip : mg "zip" = none
  c_LIMIT : mg "LIMIT" = some (.int 1000000000000000000 T.t_LIMIT)
  c_MOST_SIGNS : mg "MOST_SIGNS" = some (.int 40 T.t_MOST_SIGNS)
  c_MOST_NUMS : mg "MOST_NUMS" = some (.int 12 T.t_MOST_NUMS)
  c_MOST_LETTERS : mg "MOST_LETTERS" = some (.int 8 T.t_MOST_LETTERS)
  c_MOST_FIGURES : mg "MOST_FIGURES" = some (.int 18 T.t_MOST_FIGURES)
  c_MOST_PARTS : mg "MOST_PARTS" = some (.int 30 T.t_MOST_PARTS)
  c_MOST_DEPTH : mg "MOST_DEPTH" = some (.int 6 T.t_MOST_DEPTH)
  c_MOST_TERMS : mg "MOST_TERMS" = some (.int 3 T.t_MOST_TERMS)
  c_SIGNS : mg "SIGNS" = some (.str "abcdefghijklmnopqrstuvwxyz0123456789" T.t_SIGNS)
  c_LETTERS : mg "LETTERS" = some (.str "abcdefghijklmnopqrstuvwxyz" T.t_LETTERS)
  c_FIGURES : mg "FIGURES" = some (.str "0123456789" T.t_FIGURES)
  c_PLACES : mg "PLACES" = some (.str "0123" T.t_PLACES)
  c_QUOTE : mg "QUOTE" = some (.str "\"" T.t_QUOTE)
  m_LeafError : mg "LeafError" = some (.ref T.k_LeafError)
  e_LeafError : ExcC K T.k_LeafError
  m_NoText : mg "NoText" = some (.ref T.k_NoText)
  e_NoText : ExcC K T.k_NoText
  x_NoText : XCls K T.k_NoText
  u_NoText_LeafError : PySem.W.mroIn K T.k_NoText (.ref T.k_LeafError) = some true
  i_NoText_0 : PySem.W.kitAny K (.ref T.k_NoText) [.ref T.k_NoName, .ref T.k_NoRule, .ref T.k_NoKind, .ref T.k_NoTree, .ref T.k_NoPlace, .ref T.k_NoGiven, .ref T.k_NoWalk, .ref T.k_Ring] = some false
  i_NoText_1 : PySem.W.kitOne K (.ref T.k_NoText) (.type "ValueError") = some true
  i_NoText_2 : PySem.W.kitOne K (.ref T.k_NoText) (.ref T.k_NoText) = some true
  i_NoText_3 : PySem.W.kitOne K (.ref T.k_NoText) (.ref T.k_TooGreat) = some false
  m_TooGreat : mg "TooGreat" = some (.ref T.k_TooGreat)
  e_TooGreat : ExcC K T.k_TooGreat
  x_TooGreat : XCls K T.k_TooGreat
  u_TooGreat_LeafError : PySem.W.mroIn K T.k_TooGreat (.ref T.k_LeafError) = some true
  i_TooGreat_0 : PySem.W.kitAny K (.ref T.k_TooGreat) [.ref T.k_NoName, .ref T.k_NoRule, .ref T.k_NoKind, .ref T.k_NoTree, .ref T.k_NoPlace, .ref T.k_NoGiven, .ref T.k_NoWalk, .ref T.k_Ring] = some false
  i_TooGreat_1 : PySem.W.kitOne K (.ref T.k_TooGreat) (.type "ValueError") = some true
  i_TooGreat_2 : PySem.W.kitOne K (.ref T.k_TooGreat) (.ref T.k_NoText) = some false
  i_TooGreat_3 : PySem.W.kitOne K (.ref T.k_TooGreat) (.ref T.k_TooGreat) = some true
  m_NoName : mg "NoName" = some (.ref T.k_NoName)
  m_NoRule : mg "NoRule" = some (.ref T.k_NoRule)
  m_NoKind : mg "NoKind" = some (.ref T.k_NoKind)
  m_NoTree : mg "NoTree" = some (.ref T.k_NoTree)
  m_NoPlace : mg "NoPlace" = some (.ref T.k_NoPlace)
  m_NoGiven : mg "NoGiven" = some (.ref T.k_NoGiven)
  m_NoWalk : mg "NoWalk" = some (.ref T.k_NoWalk)
  m_Ring : mg "Ring" = some (.ref T.k_Ring)
  m_NestReader : mg "NestReader" = some (.ref T.k_NestReader)
  c_NEEDS : mg "NEEDS" = some (.ref T.a_NEEDS)
  d_NEEDS : TDict K w T.a_NEEDS [(("add" : Str), Value.ref T.NEEDS_0), (("sub" : Str), Value.ref T.NEEDS_1), (("mul" : Str), Value.ref T.NEEDS_2), (("less" : Str), Value.ref T.NEEDS_3), (("glue" : Str), Value.ref T.NEEDS_4), (("show" : Str), Value.ref T.NEEDS_5), (("size" : Str), Value.ref T.NEEDS_6), (("put" : Str), Value.ref T.NEEDS_7), (("link" : Str), Value.ref T.NEEDS_8), (("at" : Str), Value.ref T.NEEDS_9), (("many" : Str), Value.ref T.NEEDS_10)]
  y_NEEDS : (T.a_NEEDS == sysModules) = false
  q_NEEDS_0 : ∀ H, SqT K H T.NEEDS_0 [V.str "num", V.str "num"]
  q_NEEDS_1 : ∀ H, SqT K H T.NEEDS_1 [V.str "num", V.str "num"]
  q_NEEDS_2 : ∀ H, SqT K H T.NEEDS_2 [V.str "num", V.str "num"]
  q_NEEDS_3 : ∀ H, SqT K H T.NEEDS_3 [V.str "num", V.str "num"]
  q_NEEDS_4 : ∀ H, SqT K H T.NEEDS_4 [V.str "text", V.str "text"]
  q_NEEDS_5 : ∀ H, SqT K H T.NEEDS_5 [V.str "num"]
  q_NEEDS_6 : ∀ H, SqT K H T.NEEDS_6 [V.str "text"]
  q_NEEDS_7 : ∀ H, SqT K H T.NEEDS_7 [V.str "row", V.str "num"]
  q_NEEDS_8 : ∀ H, SqT K H T.NEEDS_8 [V.str "row", V.str "row"]
  q_NEEDS_9 : ∀ H, SqT K H T.NEEDS_9 [V.str "row", V.str "num"]
  q_NEEDS_10 : ∀ H, SqT K H T.NEEDS_10 [V.str "row"]
  cl_NestReader : Cls K T.k_NestReader
  mk_NestReader : Mk K T.k_NestReader T.qinit
  n_rows : NoAttr K T.k_NestReader "rows"
  n_open_words : NoAttr K T.k_NestReader "open_words"
  n_inner_counts : NoAttr K T.k_NestReader "inner_counts"
  n_closed : NoAttr K T.k_NestReader "closed"
theorem tx_mk {K : PySem.W.Frag} {w : World} {h : Heap} {mg : Str -> Option Value} (X : K.In h) (G : h.Ns mainGlobals mg) {f0 f1 f2 f3 f4 f5 f6 f7 f8 f9 f10 f11 f12 f13 f14 f15 f16 f17 f18 f19 f20 f21 f22 f23 f24 f25 f26 f27 f28 f29 f30 f31 f32 f33 f34 f35 f36 f37 f38 : Addr} {od0 an0 od1 an1 od2 an2 od3 an3 od4 an4 od5 an5 od6 an6 od7 an7 od8 an8 od9 an9 od10 an10 od11 an11 od12 an12 od13 an13 od14 an14 od15 an15 od16 an16 od17 an17 od18 an18 od19 an19 od20 an20 od21 an21 od22 an22 od23 an23 od24 an24 od25 an25 od26 an26 od27 an27 od28 an28 od29 an29 od30 an30 od31 an31 od32 an32 od33 an33 od34 an34 od35 an35 od36 an36 od37 an37 od38 an38 : Option Addr} {sl0 sl1 sl2 sl3 sl4 sl5 sl6 sl7 sl8 sl9 sl10 sl11 sl12 sl13 sl14 sl15 sl16 sl17 sl18 sl19 sl20 sl21 sl22 sl23 sl24 sl25 sl26 sl27 sl28 sl29 sl30 sl31 sl32 sl33 sl34 sl35 sl36 sl37 sl38 : Array (Option Value)}
    {oc0 kV0 dc0 pm0 cd0 ct0 oc1 kV1 dc1 pm1 cd1 ct1 oc2 kV2 dc2 pm2 cd2 ct2 oc3 kV3 dc3 pm3 cd3 ct3 oc4 kV4 dc4 pm4 cd4 ct4 oc5 kV5 dc5 pm5 cd5 ct5 oc6 kV6 dc6 pm6 cd6 ct6 oc7 kV7 dc7 pm7 cd7 ct7 oc8 kV8 dc8 pm8 cd8 ct8 oc9 kV9 dc9 pm9 cd9 ct9 oc10 kV10 dc10 pm10 cd10 ct10 oc11 kV11 dc11 pm11 cd11 ct11 oc12 kV12 dc12 pm12 cd12 ct12 oc13 kV13 dc13 pm13 cd13 ct13 oc14 kV14 dc14 pm14 cd14 ct14 oc15 kV15 dc15 pm15 cd15 ct15 oc16 kV16 dc16 pm16 cd16 ct16 oc17 kV17 dc17 pm17 cd17 ct17 oc18 kV18 dc18 pm18 cd18 ct18 oc19 kV19 dc19 pm19 cd19 ct19 oc20 kV20 dc20 pm20 cd20 ct20 oc21 kV21 dc21 pm21 cd21 ct21 oc22 kV22 dc22 pm22 cd22 ct22 oc23 kV23 dc23 pm23 cd23 ct23 oc24 kV24 dc24 pm24 cd24 ct24 oc25 kV25 dc25 pm25 cd25 ct25 oc26 kV26 dc26 pm26 cd26 ct26 oc27 kV27 dc27 pm27 cd27 ct27 oc28 kV28 dc28 pm28 cd28 ct28 oc29 kV29 dc29 pm29 cd29 ct29 oc30 kV30 dc30 pm30 cd30 ct30 oc31 kV31 dc31 pm31 cd31 ct31 oc32 kV32 dc32 pm32 cd32 ct32 oc33 kV33 dc33 pm33 cd33 ct33 oc34 kV34 dc34 pm34 cd34 ct34 oc35 kV35 dc35 pm35 cd35 ct35 oc36 kV36 dc36 pm36 cd36 ct36 oc37 kV37 dc37 pm37 cd37 ct37 oc38 kV38 dc38 pm38 cd38 ct38 : Value} {t_LIMIT t_MOST_SIGNS t_MOST_NUMS t_MOST_LETTERS t_MOST_FIGURES t_MOST_PARTS t_MOST_DEPTH t_MOST_TERMS t_SIGNS t_LETTERS t_FIGURES t_PLACES t_QUOTE : Tok}
    {k_LeafError k_NoText k_TooGreat k_NoName k_NoRule k_NoKind k_NoTree k_NoPlace k_NoGiven k_NoWalk k_Ring k_NestReader : Addr}
    (m_LeafError : PySem.W.nsIn K mainGlobals "LeafError" = some (some (.ref k_LeafError)))
    (m_NoText : PySem.W.nsIn K mainGlobals "NoText" = some (some (.ref k_NoText)))
    (m_TooGreat : PySem.W.nsIn K mainGlobals "TooGreat" = some (some (.ref k_TooGreat)))
    (m_NoName : PySem.W.nsIn K mainGlobals "NoName" = some (some (.ref k_NoName)))
    (m_NoRule : PySem.W.nsIn K mainGlobals "NoRule" = some (some (.ref k_NoRule)))
    (m_NoKind : PySem.W.nsIn K mainGlobals "NoKind" = some (some (.ref k_NoKind)))
    (m_NoTree : PySem.W.nsIn K mainGlobals "NoTree" = some (some (.ref k_NoTree)))
    (m_NoPlace : PySem.W.nsIn K mainGlobals "NoPlace" = some (some (.ref k_NoPlace)))
    (m_NoGiven : PySem.W.nsIn K mainGlobals "NoGiven" = some (some (.ref k_NoGiven)))
    (m_NoWalk : PySem.W.nsIn K mainGlobals "NoWalk" = some (some (.ref k_NoWalk)))
    (m_Ring : PySem.W.nsIn K mainGlobals "Ring" = some (some (.ref k_Ring)))
    (m_NestReader : PySem.W.nsIn K mainGlobals "NestReader" = some (some (.ref k_NestReader)))
    (a0 : PySem.W.nsIn K mainGlobals "is_num" = some (some (.ref f0))) (l0 : K.lookup f0 = some ⟨oc0, od0, .func (PySem.W.fnOf "is_num" "is_num" (defArgs s_qisnum) (defBody s_qisnum) (defScope s_qisnum) .none kV0 dc0 pm0 an0 cd0 ct0), sl0⟩) (c0 : PySem.W.codeIn K cd0 "is_num" = true) (k0 : PySem.W.keepIn K (.ref f0) = true)
    (a1 : PySem.W.nsIn K mainGlobals "is_text" = some (some (.ref f1))) (l1 : K.lookup f1 = some ⟨oc1, od1, .func (PySem.W.fnOf "is_text" "is_text" (defArgs s_qistext) (defBody s_qistext) (defScope s_qistext) .none kV1 dc1 pm1 an1 cd1 ct1), sl1⟩) (c1 : PySem.W.codeIn K cd1 "is_text" = true) (k1 : PySem.W.keepIn K (.ref f1) = true)
    (a2 : PySem.W.nsIn K mainGlobals "is_row" = some (some (.ref f2))) (l2 : K.lookup f2 = some ⟨oc2, od2, .func (PySem.W.fnOf "is_row" "is_row" (defArgs s_qisrow) (defBody s_qisrow) (defScope s_qisrow) .none kV2 dc2 pm2 an2 cd2 ct2), sl2⟩) (c2 : PySem.W.codeIn K cd2 "is_row" = true) (k2 : PySem.W.keepIn K (.ref f2) = true)
    (a3 : PySem.W.nsIn K mainGlobals "is_kind" = some (some (.ref f3))) (l3 : K.lookup f3 = some ⟨oc3, od3, .func (PySem.W.fnOf "is_kind" "is_kind" (defArgs s_qiskind) (defBody s_qiskind) (defScope s_qiskind) .none kV3 dc3 pm3 an3 cd3 ct3), sl3⟩) (c3 : PySem.W.codeIn K cd3 "is_kind" = true) (k3 : PySem.W.keepIn K (.ref f3) = true)
    (a4 : PySem.W.nsIn K mainGlobals "is_deed" = some (some (.ref f4))) (l4 : K.lookup f4 = some ⟨oc4, od4, .func (PySem.W.fnOf "is_deed" "is_deed" (defArgs s_qisdeed) (defBody s_qisdeed) (defScope s_qisdeed) .none kV4 dc4 pm4 an4 cd4 ct4), sl4⟩) (c4 : PySem.W.codeIn K cd4 "is_deed" = true) (k4 : PySem.W.keepIn K (.ref f4) = true)
    (a5 : PySem.W.nsIn K mainGlobals "is_name" = some (some (.ref f5))) (l5 : K.lookup f5 = some ⟨oc5, od5, .func (PySem.W.fnOf "is_name" "is_name" (defArgs s_qisname) (defBody s_qisname) (defScope s_qisname) .none kV5 dc5 pm5 an5 cd5 ct5), sl5⟩) (c5 : PySem.W.codeIn K cd5 "is_name" = true) (k5 : PySem.W.keepIn K (.ref f5) = true)
    (a6 : PySem.W.nsIn K mainGlobals "is_number" = some (some (.ref f6))) (l6 : K.lookup f6 = some ⟨oc6, od6, .func (PySem.W.fnOf "is_number" "is_number" (defArgs s_qisnumber) (defBody s_qisnumber) (defScope s_qisnumber) .none kV6 dc6 pm6 an6 cd6 ct6), sl6⟩) (c6 : PySem.W.codeIn K cd6 "is_number" = true) (k6 : PySem.W.keepIn K (.ref f6) = true)
    (a7 : PySem.W.nsIn K mainGlobals "read_value" = some (some (.ref f7))) (l7 : K.lookup f7 = some ⟨oc7, od7, .func (PySem.W.fnOf "read_value" "read_value" (defArgs s_qreadvalue) (defBody s_qreadvalue) (defScope s_qreadvalue) .none kV7 dc7 pm7 an7 cd7 ct7), sl7⟩) (c7 : PySem.W.codeIn K cd7 "read_value" = true) (k7 : PySem.W.keepIn K (.ref f7) = true)
    (a8 : PySem.W.nsIn K mainGlobals "pieces" = some (some (.ref f8))) (l8 : K.lookup f8 = some ⟨oc8, od8, .func (PySem.W.fnOf "pieces" "pieces" (defArgs s_qpieces) (defBody s_qpieces) (defScope s_qpieces) .none kV8 dc8 pm8 an8 cd8 ct8), sl8⟩) (c8 : PySem.W.codeIn K cd8 "pieces" = true) (k8 : PySem.W.keepIn K (.ref f8) = true)
    (a9 : PySem.W.findIn K (.ref k_NestReader) "__init__" = some (some (.ref f9))) (i9 : PySem.W.isFn K (.ref f9) = true) (l9 : K.lookup f9 = some ⟨oc9, od9, .func (PySem.W.fnOf "__init__" "NestReader.__init__" (defArgs s_qinit) (defBody s_qinit) (defScope s_qinit) .none kV9 dc9 pm9 an9 cd9 ct9), sl9⟩) (c9 : PySem.W.codeIn K cd9 "NestReader.__init__" = true) (k9 : PySem.W.keepIn K (.ref f9) = true)
    (a10 : PySem.W.findIn K (.ref k_NestReader) "add_row" = some (some (.ref f10))) (i10 : PySem.W.isFn K (.ref f10) = true) (l10 : K.lookup f10 = some ⟨oc10, od10, .func (PySem.W.fnOf "add_row" "NestReader.add_row" (defArgs s_qaddrow) (defBody s_qaddrow) (defScope s_qaddrow) .none kV10 dc10 pm10 an10 cd10 ct10), sl10⟩) (c10 : PySem.W.codeIn K cd10 "NestReader.add_row" = true) (k10 : PySem.W.keepIn K (.ref f10) = true)
    (a11 : PySem.W.findIn K (.ref k_NestReader) "begin" = some (some (.ref f11))) (i11 : PySem.W.isFn K (.ref f11) = true) (l11 : K.lookup f11 = some ⟨oc11, od11, .func (PySem.W.fnOf "begin" "NestReader.begin" (defArgs s_qbegin) (defBody s_qbegin) (defScope s_qbegin) .none kV11 dc11 pm11 an11 cd11 ct11), sl11⟩) (c11 : PySem.W.codeIn K cd11 "NestReader.begin" = true) (k11 : PySem.W.keepIn K (.ref f11) = true)
    (a12 : PySem.W.findIn K (.ref k_NestReader) "end_word" = some (some (.ref f12))) (i12 : PySem.W.isFn K (.ref f12) = true) (l12 : K.lookup f12 = some ⟨oc12, od12, .func (PySem.W.fnOf "end_word" "NestReader.end_word" (defArgs s_qendword) (defBody s_qendword) (defScope s_qendword) .none kV12 dc12 pm12 an12 cd12 ct12), sl12⟩) (c12 : PySem.W.codeIn K cd12 "NestReader.end_word" = true) (k12 : PySem.W.keepIn K (.ref f12) = true)
    (a13 : PySem.W.findIn K (.ref k_NestReader) "count_in" = some (some (.ref f13))) (i13 : PySem.W.isFn K (.ref f13) = true) (l13 : K.lookup f13 = some ⟨oc13, od13, .func (PySem.W.fnOf "count_in" "NestReader.count_in" (defArgs s_qcountin) (defBody s_qcountin) (defScope s_qcountin) .none kV13 dc13 pm13 an13 cd13 ct13), sl13⟩) (c13 : PySem.W.codeIn K cd13 "NestReader.count_in" = true) (k13 : PySem.W.keepIn K (.ref f13) = true)
    (a14 : PySem.W.findIn K (.ref k_NestReader) "close_bracket" = some (some (.ref f14))) (i14 : PySem.W.isFn K (.ref f14) = true) (l14 : K.lookup f14 = some ⟨oc14, od14, .func (PySem.W.fnOf "close_bracket" "NestReader.close_bracket" (defArgs s_qclosebracket) (defBody s_qclosebracket) (defScope s_qclosebracket) .none kV14 dc14 pm14 an14 cd14 ct14), sl14⟩) (c14 : PySem.W.codeIn K cd14 "NestReader.close_bracket" = true) (k14 : PySem.W.keepIn K (.ref f14) = true)
    (a15 : PySem.W.findIn K (.ref k_NestReader) "all_rows" = some (some (.ref f15))) (i15 : PySem.W.isFn K (.ref f15) = true) (l15 : K.lookup f15 = some ⟨oc15, od15, .func (PySem.W.fnOf "all_rows" "NestReader.all_rows" (defArgs s_qallrows) (defBody s_qallrows) (defScope s_qallrows) .none kV15 dc15 pm15 an15 cd15 ct15), sl15⟩) (c15 : PySem.W.codeIn K cd15 "NestReader.all_rows" = true) (k15 : PySem.W.keepIn K (.ref f15) = true)
    (a16 : PySem.W.nsIn K mainGlobals "nest_rows" = some (some (.ref f16))) (l16 : K.lookup f16 = some ⟨oc16, od16, .func (PySem.W.fnOf "nest_rows" "nest_rows" (defArgs s_qnestrows) (defBody s_qnestrows) (defScope s_qnestrows) .none kV16 dc16 pm16 an16 cd16 ct16), sl16⟩) (c16 : PySem.W.codeIn K cd16 "nest_rows" = true) (k16 : PySem.W.keepIn K (.ref f16) = true)
    (a17 : PySem.W.nsIn K mainGlobals "deepest" = some (some (.ref f17))) (l17 : K.lookup f17 = some ⟨oc17, od17, .func (PySem.W.fnOf "deepest" "deepest" (defArgs s_qdeepest) (defBody s_qdeepest) (defScope s_qdeepest) .none kV17 dc17 pm17 an17 cd17 ct17), sl17⟩) (c17 : PySem.W.codeIn K cd17 "deepest" = true) (k17 : PySem.W.keepIn K (.ref f17) = true)
    (a18 : PySem.W.nsIn K mainGlobals "taken_off" = some (some (.ref f18))) (l18 : K.lookup f18 = some ⟨oc18, od18, .func (PySem.W.fnOf "taken_off" "taken_off" (defArgs s_qtakenoff) (defBody s_qtakenoff) (defScope s_qtakenoff) .none kV18 dc18 pm18 an18 cd18 ct18), sl18⟩) (c18 : PySem.W.codeIn K cd18 "taken_off" = true) (k18 : PySem.W.keepIn K (.ref f18) = true)
    (a19 : PySem.W.nsIn K mainGlobals "is_quoted" = some (some (.ref f19))) (l19 : K.lookup f19 = some ⟨oc19, od19, .func (PySem.W.fnOf "is_quoted" "is_quoted" (defArgs s_qisquoted) (defBody s_qisquoted) (defScope s_qisquoted) .none kV19 dc19 pm19 an19 cd19 ct19), sl19⟩) (c19 : PySem.W.codeIn K cd19 "is_quoted" = true) (k19 : PySem.W.keepIn K (.ref f19) = true)
    (a20 : PySem.W.nsIn K mainGlobals "read_leaf" = some (some (.ref f20))) (l20 : K.lookup f20 = some ⟨oc20, od20, .func (PySem.W.fnOf "read_leaf" "read_leaf" (defArgs s_qreadleaf) (defBody s_qreadleaf) (defScope s_qreadleaf) .none kV20 dc20 pm20 an20 cd20 ct20), sl20⟩) (c20 : PySem.W.codeIn K cd20 "read_leaf" = true) (k20 : PySem.W.keepIn K (.ref f20) = true)
    (a21 : PySem.W.nsIn K mainGlobals "made_call" = some (some (.ref f21))) (l21 : K.lookup f21 = some ⟨oc21, od21, .func (PySem.W.fnOf "made_call" "made_call" (defArgs s_qmadecall) (defBody s_qmadecall) (defScope s_qmadecall) .none kV21 dc21 pm21 an21 cd21 ct21), sl21⟩) (c21 : PySem.W.codeIn K cd21 "made_call" = true) (k21 : PySem.W.keepIn K (.ref f21) = true)
    (a22 : PySem.W.nsIn K mainGlobals "read_term" = some (some (.ref f22))) (l22 : K.lookup f22 = some ⟨oc22, od22, .func (PySem.W.fnOf "read_term" "read_term" (defArgs s_qreadterm) (defBody s_qreadterm) (defScope s_qreadterm) .none kV22 dc22 pm22 an22 cd22 ct22), sl22⟩) (c22 : PySem.W.codeIn K cd22 "read_term" = true) (k22 : PySem.W.keepIn K (.ref f22) = true)
    (a23 : PySem.W.nsIn K mainGlobals "_law_deed" = some (some (.ref f23))) (l23 : K.lookup f23 = some ⟨oc23, od23, .func (PySem.W.fnOf "_law_deed" "_law_deed" (defArgs s_qdeed) (defBody s_qdeed) (defScope s_qdeed) .none kV23 dc23 pm23 an23 cd23 ct23), sl23⟩) (c23 : PySem.W.codeIn K cd23 "_law_deed" = true) (k23 : PySem.W.keepIn K (.ref f23) = true)
    (a24 : PySem.W.nsIn K mainGlobals "_law_word" = some (some (.ref f24))) (l24 : K.lookup f24 = some ⟨oc24, od24, .func (PySem.W.fnOf "_law_word" "_law_word" (defArgs s_qword) (defBody s_qword) (defScope s_qword) .none kV24 dc24 pm24 an24 cd24 ct24), sl24⟩) (c24 : PySem.W.codeIn K cd24 "_law_word" = true) (k24 : PySem.W.keepIn K (.ref f24) = true)
    (a25 : PySem.W.nsIn K mainGlobals "_law_name" = some (some (.ref f25))) (l25 : K.lookup f25 = some ⟨oc25, od25, .func (PySem.W.fnOf "_law_name" "_law_name" (defArgs s_qname) (defBody s_qname) (defScope s_qname) .none kV25 dc25 pm25 an25 cd25 ct25), sl25⟩) (c25 : PySem.W.codeIn K cd25 "_law_name" = true) (k25 : PySem.W.keepIn K (.ref f25) = true)
    (a26 : PySem.W.nsIn K mainGlobals "_law_leaf" = some (some (.ref f26))) (l26 : K.lookup f26 = some ⟨oc26, od26, .func (PySem.W.fnOf "_law_leaf" "_law_leaf" (defArgs s_qleaf) (defBody s_qleaf) (defScope s_qleaf) .none kV26 dc26 pm26 an26 cd26 ct26), sl26⟩) (c26 : PySem.W.codeIn K cd26 "_law_leaf" = true) (k26 : PySem.W.keepIn K (.ref f26) = true)
    (a27 : PySem.W.nsIn K mainGlobals "_law_call" = some (some (.ref f27))) (l27 : K.lookup f27 = some ⟨oc27, od27, .func (PySem.W.fnOf "_law_call" "_law_call" (defArgs s_qcall) (defBody s_qcall) (defScope s_qcall) .none kV27 dc27 pm27 an27 cd27 ct27), sl27⟩) (c27 : PySem.W.codeIn K cd27 "_law_call" = true) (k27 : PySem.W.keepIn K (.ref f27) = true)
    (a28 : PySem.W.nsIn K mainGlobals "_law_lines" = some (some (.ref f28))) (l28 : K.lookup f28 = some ⟨oc28, od28, .func (PySem.W.fnOf "_law_lines" "_law_lines" (defArgs s_qlines) (defBody s_qlines) (defScope s_qlines) .none kV28 dc28 pm28 an28 cd28 ct28), sl28⟩) (c28 : PySem.W.codeIn K cd28 "_law_lines" = true) (k28 : PySem.W.keepIn K (.ref f28) = true)
    (a29 : PySem.W.nsIn K mainGlobals "_law_edited" = some (some (.ref f29))) (l29 : K.lookup f29 = some ⟨oc29, od29, .func (PySem.W.fnOf "_law_edited" "_law_edited" (defArgs s_qedited) (defBody s_qedited) (defScope s_qedited) .none kV29 dc29 pm29 an29 cd29 ct29), sl29⟩) (c29 : PySem.W.codeIn K cd29 "_law_edited" = true) (k29 : PySem.W.keepIn K (.ref f29) = true)
    (a30 : PySem.W.nsIn K mainGlobals "_law_words" = some (some (.ref f30))) (l30 : K.lookup f30 = some ⟨oc30, od30, .func (PySem.W.fnOf "_law_words" "_law_words" (defArgs s_qwords) (defBody s_qwords) (defScope s_qwords) .none kV30 dc30 pm30 an30 cd30 ct30), sl30⟩) (c30 : PySem.W.codeIn K cd30 "_law_words" = true) (k30 : PySem.W.keepIn K (.ref f30) = true)
    (a31 : PySem.W.nsIn K mainGlobals "_law_made_of" = some (some (.ref f31))) (l31 : K.lookup f31 = some ⟨oc31, od31, .func (PySem.W.fnOf "_law_made_of" "_law_made_of" (defArgs s_qmadeof) (defBody s_qmadeof) (defScope s_qmadeof) .none kV31 dc31 pm31 an31 cd31 ct31), sl31⟩) (c31 : PySem.W.codeIn K cd31 "_law_made_of" = true) (k31 : PySem.W.keepIn K (.ref f31) = true)
    (a32 : PySem.W.nsIn K mainGlobals "_law_one" = some (some (.ref f32))) (l32 : K.lookup f32 = some ⟨oc32, od32, .func (PySem.W.fnOf "_law_one" "_law_one" (defArgs s_qone) (defBody s_qone) (defScope s_qone) .none kV32 dc32 pm32 an32 cd32 ct32), sl32⟩) (c32 : PySem.W.codeIn K cd32 "_law_one" = true) (k32 : PySem.W.keepIn K (.ref f32) = true)
    (a33 : PySem.W.nsIn K mainGlobals "_law_due" = some (some (.ref f33))) (l33 : K.lookup f33 = some ⟨oc33, od33, .func (PySem.W.fnOf "_law_due" "_law_due" (defArgs s_qdue) (defBody s_qdue) (defScope s_qdue) .none kV33 dc33 pm33 an33 cd33 ct33), sl33⟩) (c33 : PySem.W.codeIn K cd33 "_law_due" = true) (k33 : PySem.W.keepIn K (.ref f33) = true)
    (a34 : PySem.W.nsIn K mainGlobals "_law_alike" = some (some (.ref f34))) (l34 : K.lookup f34 = some ⟨oc34, od34, .func (PySem.W.fnOf "_law_alike" "_law_alike" (defArgs s_qalike) (defBody s_qalike) (defScope s_qalike) .none kV34 dc34 pm34 an34 cd34 ct34), sl34⟩) (c34 : PySem.W.codeIn K cd34 "_law_alike" = true) (k34 : PySem.W.keepIn K (.ref f34) = true)
    (a35 : PySem.W.nsIn K mainGlobals "_law_told" = some (some (.ref f35))) (l35 : K.lookup f35 = some ⟨oc35, od35, .func (PySem.W.fnOf "_law_told" "_law_told" (defArgs s_qtold) (defBody s_qtold) (defScope s_qtold) .none kV35 dc35 pm35 an35 cd35 ct35), sl35⟩) (c35 : PySem.W.codeIn K cd35 "_law_told" = true) (k35 : PySem.W.keepIn K (.ref f35) = true)
    (a36 : PySem.W.nsIn K mainGlobals "_law_read" = some (some (.ref f36))) (l36 : K.lookup f36 = some ⟨oc36, od36, .func (PySem.W.fnOf "_law_read" "_law_read" (defArgs s_qread) (defBody s_qread) (defScope s_qread) .none kV36 dc36 pm36 an36 cd36 ct36), sl36⟩) (c36 : PySem.W.codeIn K cd36 "_law_read" = true) (k36 : PySem.W.keepIn K (.ref f36) = true)
    (a37 : PySem.W.nsIn K mainGlobals "_law_great" = some (some (.ref f37))) (l37 : K.lookup f37 = some ⟨oc37, od37, .func (PySem.W.fnOf "_law_great" "_law_great" (defArgs s_qgreat) (defBody s_qgreat) (defScope s_qgreat) .none kV37 dc37 pm37 an37 cd37 ct37), sl37⟩) (c37 : PySem.W.codeIn K cd37 "_law_great" = true) (k37 : PySem.W.keepIn K (.ref f37) = true)
    (a38 : PySem.W.nsIn K mainGlobals "law" = some (some (.ref f38))) (l38 : K.lookup f38 = some ⟨oc38, od38, .func (PySem.W.fnOf "law" "law" (defArgs s_law) (defBody s_law) (defScope s_law) .none kV38 dc38 pm38 an38 cd38 ct38), sl38⟩) (c38 : PySem.W.codeIn K cd38 "law" = true) (k38 : PySem.W.keepIn K (.ref f38) = true)
    (z_ValueError : PySem.W.nsIn K mainGlobals "ValueError" = some none)
    (z_all : PySem.W.nsIn K mainGlobals "all" = some none)
    (z_bool : PySem.W.nsIn K mainGlobals "bool" = some none)
    (z_enumerate : PySem.W.nsIn K mainGlobals "enumerate" = some none)
    (z_int : PySem.W.nsIn K mainGlobals "int" = some none)
    (z_isinstance : PySem.W.nsIn K mainGlobals "isinstance" = some none)
    (z_len : PySem.W.nsIn K mainGlobals "len" = some none)
    (z_max : PySem.W.nsIn K mainGlobals "max" = some none)
    (z_min : PySem.W.nsIn K mainGlobals "min" = some none)
    (z_range : PySem.W.nsIn K mainGlobals "range" = some none)
    (z_reversed : PySem.W.nsIn K mainGlobals "reversed" = some none)
    (z_str : PySem.W.nsIn K mainGlobals "str" = some none)
    (z_sum : PySem.W.nsIn K mainGlobals "sum" = some none)
    (z_tuple : PySem.W.nsIn K mainGlobals "tuple" = some none)
    (z_zip : PySem.W.nsIn K mainGlobals "zip" = some none)
    (c_LIMIT : PySem.W.nsIn K mainGlobals "LIMIT" = some (some (.int 1000000000000000000 t_LIMIT)))
    (c_MOST_SIGNS : PySem.W.nsIn K mainGlobals "MOST_SIGNS" = some (some (.int 40 t_MOST_SIGNS)))
    (c_MOST_NUMS : PySem.W.nsIn K mainGlobals "MOST_NUMS" = some (some (.int 12 t_MOST_NUMS)))
    (c_MOST_LETTERS : PySem.W.nsIn K mainGlobals "MOST_LETTERS" = some (some (.int 8 t_MOST_LETTERS)))
    (c_MOST_FIGURES : PySem.W.nsIn K mainGlobals "MOST_FIGURES" = some (some (.int 18 t_MOST_FIGURES)))
    (c_MOST_PARTS : PySem.W.nsIn K mainGlobals "MOST_PARTS" = some (some (.int 30 t_MOST_PARTS)))
    (c_MOST_DEPTH : PySem.W.nsIn K mainGlobals "MOST_DEPTH" = some (some (.int 6 t_MOST_DEPTH)))
    (c_MOST_TERMS : PySem.W.nsIn K mainGlobals "MOST_TERMS" = some (some (.int 3 t_MOST_TERMS)))
    (c_SIGNS : PySem.W.nsIn K mainGlobals "SIGNS" = some (some (.str "abcdefghijklmnopqrstuvwxyz0123456789" t_SIGNS)))
    (c_LETTERS : PySem.W.nsIn K mainGlobals "LETTERS" = some (some (.str "abcdefghijklmnopqrstuvwxyz" t_LETTERS)))
    (c_FIGURES : PySem.W.nsIn K mainGlobals "FIGURES" = some (some (.str "0123456789" t_FIGURES)))
    (c_PLACES : PySem.W.nsIn K mainGlobals "PLACES" = some (some (.str "0123" t_PLACES)))
    (c_QUOTE : PySem.W.nsIn K mainGlobals "QUOTE" = some (some (.str "\"" t_QUOTE)))
    (e_LeafError : PySem.W.excIn K k_LeafError vbm "ValueError.__new__" = true)
    (e_NoText : PySem.W.excIn K k_NoText vbm "ValueError.__new__" = true)
    (xga_NoText : PySem.W.findIn K (.ref k_NoText) "__getattribute__" = some (some (.builtin "BaseException.__getattribute__")))
    (xgt_NoText : PySem.W.findIn K (.ref k_NoText) "__getattr__" = some none)
    (xca_NoText : PySem.W.findIn K (.ref k_NoText) "__class__" = some (some (.builtin "object.__class__")))
    (xsp_NoText : PySem.W.specialIn K (.builtin "object.__class__") "__get__" = some (some (.builtin "getset_descriptor.__get__")))
    (xtk_NoText : PySem.W.takesIn K (.builtin "object.__class__") = some true)
    (xmo_NoText : PySem.W.mroIn K k_NoText (.type "object") = some true)
    (xmb_NoText : PySem.W.mroIn K k_NoText (.type "BaseException") = some true)
    (u_NoText_LeafError : PySem.W.mroIn K k_NoText (.ref k_LeafError) = some true)
    (i_NoText_0 : PySem.W.kitAny K (.ref k_NoText) [.ref k_NoName, .ref k_NoRule, .ref k_NoKind, .ref k_NoTree, .ref k_NoPlace, .ref k_NoGiven, .ref k_NoWalk, .ref k_Ring] = some false)
    (i_NoText_1 : PySem.W.kitOne K (.ref k_NoText) (.type "ValueError") = some true)
    (i_NoText_2 : PySem.W.kitOne K (.ref k_NoText) (.ref k_NoText) = some true)
    (i_NoText_3 : PySem.W.kitOne K (.ref k_NoText) (.ref k_TooGreat) = some false)
    (e_TooGreat : PySem.W.excIn K k_TooGreat vbm "ValueError.__new__" = true)
    (xga_TooGreat : PySem.W.findIn K (.ref k_TooGreat) "__getattribute__" = some (some (.builtin "BaseException.__getattribute__")))
    (xgt_TooGreat : PySem.W.findIn K (.ref k_TooGreat) "__getattr__" = some none)
    (xca_TooGreat : PySem.W.findIn K (.ref k_TooGreat) "__class__" = some (some (.builtin "object.__class__")))
    (xsp_TooGreat : PySem.W.specialIn K (.builtin "object.__class__") "__get__" = some (some (.builtin "getset_descriptor.__get__")))
    (xtk_TooGreat : PySem.W.takesIn K (.builtin "object.__class__") = some true)
    (xmo_TooGreat : PySem.W.mroIn K k_TooGreat (.type "object") = some true)
    (xmb_TooGreat : PySem.W.mroIn K k_TooGreat (.type "BaseException") = some true)
    (u_TooGreat_LeafError : PySem.W.mroIn K k_TooGreat (.ref k_LeafError) = some true)
    (i_TooGreat_0 : PySem.W.kitAny K (.ref k_TooGreat) [.ref k_NoName, .ref k_NoRule, .ref k_NoKind, .ref k_NoTree, .ref k_NoPlace, .ref k_NoGiven, .ref k_NoWalk, .ref k_Ring] = some false)
    (i_TooGreat_1 : PySem.W.kitOne K (.ref k_TooGreat) (.type "ValueError") = some true)
    (i_TooGreat_2 : PySem.W.kitOne K (.ref k_TooGreat) (.ref k_NoText) = some false)
    (i_TooGreat_3 : PySem.W.kitOne K (.ref k_TooGreat) (.ref k_TooGreat) = some true)
    (opg_NestReader : PySem.W.plainGet K k_NestReader Str.empty = true)
    (ohd_NestReader : PySem.W.hasDictIn K k_NestReader = true)
    (opo_NestReader : PySem.W.plainOver K k_NestReader = true)
    (osa_NestReader : PySem.W.findIn K (.ref k_NestReader) "__setattr__" = some (some (.builtin "object.__setattr__")))
    (omk_NestReader : PySem.W.makesIn K k_NestReader = true)
    (okc_NestReader : PySem.W.keepIn K (.ref k_NestReader) = true)
    (n_rows : PySem.W.findIn K (.ref k_NestReader) "rows" = some none)
    (n_open_words : PySem.W.findIn K (.ref k_NestReader) "open_words" = some none)
    (n_inner_counts : PySem.W.findIn K (.ref k_NestReader) "inner_counts" = some none)
    (n_closed : PySem.W.findIn K (.ref k_NestReader) "closed" = some none)
    {a_NEEDS : Addr} {es_NEEDS : List DictEntry} {n_NEEDS : Nat} {NEEDS_0 : Addr} {NEEDS_1 : Addr} {NEEDS_2 : Addr} {NEEDS_3 : Addr} {NEEDS_4 : Addr} {NEEDS_5 : Addr} {NEEDS_6 : Addr} {NEEDS_7 : Addr} {NEEDS_8 : Addr} {NEEDS_9 : Addr} {NEEDS_10 : Addr}
    (c_NEEDS : PySem.W.nsIn K mainGlobals "NEEDS" = some (some (.ref a_NEEDS))) (dl_NEEDS : K.lookup a_NEEDS = some ⟨.type "dict", none, .dict es_NEEDS.toArray n_NEEDS, #[]⟩)
    (dk_NEEDS : PySem.W.KeysLit w.params es_NEEDS) (dv_NEEDS : topKvs es_NEEDS = [(("add" : Str), Value.ref NEEDS_0), (("sub" : Str), Value.ref NEEDS_1), (("mul" : Str), Value.ref NEEDS_2), (("less" : Str), Value.ref NEEDS_3), (("glue" : Str), Value.ref NEEDS_4), (("show" : Str), Value.ref NEEDS_5), (("size" : Str), Value.ref NEEDS_6), (("put" : Str), Value.ref NEEDS_7), (("link" : Str), Value.ref NEEDS_8), (("at" : Str), Value.ref NEEDS_9), (("many" : Str), Value.ref NEEDS_10)]) (y_NEEDS : (a_NEEDS == sysModules) = false)
    {dd_NEEDS_0 : Option Addr} {m_NEEDS_0 : Nat} {sl_NEEDS_0 : Array (Option Value)} {t_NEEDS_0_0 t_NEEDS_0_1 : Tok}
    (q_NEEDS_0 : K.lookup NEEDS_0 = some ⟨.type "tuple", dd_NEEDS_0, .seq #[.str "num" t_NEEDS_0_0, .str "num" t_NEEDS_0_1] m_NEEDS_0, sl_NEEDS_0⟩)
    {dd_NEEDS_1 : Option Addr} {m_NEEDS_1 : Nat} {sl_NEEDS_1 : Array (Option Value)} {t_NEEDS_1_0 t_NEEDS_1_1 : Tok}
    (q_NEEDS_1 : K.lookup NEEDS_1 = some ⟨.type "tuple", dd_NEEDS_1, .seq #[.str "num" t_NEEDS_1_0, .str "num" t_NEEDS_1_1] m_NEEDS_1, sl_NEEDS_1⟩)
    {dd_NEEDS_2 : Option Addr} {m_NEEDS_2 : Nat} {sl_NEEDS_2 : Array (Option Value)} {t_NEEDS_2_0 t_NEEDS_2_1 : Tok}
    (q_NEEDS_2 : K.lookup NEEDS_2 = some ⟨.type "tuple", dd_NEEDS_2, .seq #[.str "num" t_NEEDS_2_0, .str "num" t_NEEDS_2_1] m_NEEDS_2, sl_NEEDS_2⟩)
    {dd_NEEDS_3 : Option Addr} {m_NEEDS_3 : Nat} {sl_NEEDS_3 : Array (Option Value)} {t_NEEDS_3_0 t_NEEDS_3_1 : Tok}
    (q_NEEDS_3 : K.lookup NEEDS_3 = some ⟨.type "tuple", dd_NEEDS_3, .seq #[.str "num" t_NEEDS_3_0, .str "num" t_NEEDS_3_1] m_NEEDS_3, sl_NEEDS_3⟩)
    {dd_NEEDS_4 : Option Addr} {m_NEEDS_4 : Nat} {sl_NEEDS_4 : Array (Option Value)} {t_NEEDS_4_0 t_NEEDS_4_1 : Tok}
    (q_NEEDS_4 : K.lookup NEEDS_4 = some ⟨.type "tuple", dd_NEEDS_4, .seq #[.str "text" t_NEEDS_4_0, .str "text" t_NEEDS_4_1] m_NEEDS_4, sl_NEEDS_4⟩)
    {dd_NEEDS_5 : Option Addr} {m_NEEDS_5 : Nat} {sl_NEEDS_5 : Array (Option Value)} {t_NEEDS_5_0 : Tok}
    (q_NEEDS_5 : K.lookup NEEDS_5 = some ⟨.type "tuple", dd_NEEDS_5, .seq #[.str "num" t_NEEDS_5_0] m_NEEDS_5, sl_NEEDS_5⟩)
    {dd_NEEDS_6 : Option Addr} {m_NEEDS_6 : Nat} {sl_NEEDS_6 : Array (Option Value)} {t_NEEDS_6_0 : Tok}
    (q_NEEDS_6 : K.lookup NEEDS_6 = some ⟨.type "tuple", dd_NEEDS_6, .seq #[.str "text" t_NEEDS_6_0] m_NEEDS_6, sl_NEEDS_6⟩)
    {dd_NEEDS_7 : Option Addr} {m_NEEDS_7 : Nat} {sl_NEEDS_7 : Array (Option Value)} {t_NEEDS_7_0 t_NEEDS_7_1 : Tok}
    (q_NEEDS_7 : K.lookup NEEDS_7 = some ⟨.type "tuple", dd_NEEDS_7, .seq #[.str "row" t_NEEDS_7_0, .str "num" t_NEEDS_7_1] m_NEEDS_7, sl_NEEDS_7⟩)
    {dd_NEEDS_8 : Option Addr} {m_NEEDS_8 : Nat} {sl_NEEDS_8 : Array (Option Value)} {t_NEEDS_8_0 t_NEEDS_8_1 : Tok}
    (q_NEEDS_8 : K.lookup NEEDS_8 = some ⟨.type "tuple", dd_NEEDS_8, .seq #[.str "row" t_NEEDS_8_0, .str "row" t_NEEDS_8_1] m_NEEDS_8, sl_NEEDS_8⟩)
    {dd_NEEDS_9 : Option Addr} {m_NEEDS_9 : Nat} {sl_NEEDS_9 : Array (Option Value)} {t_NEEDS_9_0 t_NEEDS_9_1 : Tok}
    (q_NEEDS_9 : K.lookup NEEDS_9 = some ⟨.type "tuple", dd_NEEDS_9, .seq #[.str "row" t_NEEDS_9_0, .str "num" t_NEEDS_9_1] m_NEEDS_9, sl_NEEDS_9⟩)
    {dd_NEEDS_10 : Option Addr} {m_NEEDS_10 : Nat} {sl_NEEDS_10 : Array (Option Value)} {t_NEEDS_10_0 : Tok}
    (q_NEEDS_10 : K.lookup NEEDS_10 = some ⟨.type "tuple", dd_NEEDS_10, .seq #[.str "row" t_NEEDS_10_0] m_NEEDS_10, sl_NEEDS_10⟩)
    : ∃ T : Adr, Tx K w mg T := by
  have F0 := fun_mk (st := s_qisnum) l0 c0 k0
  have F1 := fun_mk (st := s_qistext) l1 c1 k1
  have F2 := fun_mk (st := s_qisrow) l2 c2 k2
  have F3 := fun_mk (st := s_qiskind) l3 c3 k3
  have F4 := fun_mk (st := s_qisdeed) l4 c4 k4
  have F5 := fun_mk (st := s_qisname) l5 c5 k5
  have F6 := fun_mk (st := s_qisnumber) l6 c6 k6
  have F7 := fun_mk (st := s_qreadvalue) l7 c7 k7
  have F8 := fun_mk (st := s_qpieces) l8 c8 k8
  have F9 := fun_mk (st := s_qinit) l9 c9 k9
  have F10 := fun_mk (st := s_qaddrow) l10 c10 k10
  have F11 := fun_mk (st := s_qbegin) l11 c11 k11
  have F12 := fun_mk (st := s_qendword) l12 c12 k12
  have F13 := fun_mk (st := s_qcountin) l13 c13 k13
  have F14 := fun_mk (st := s_qclosebracket) l14 c14 k14
  have F15 := fun_mk (st := s_qallrows) l15 c15 k15
  have F16 := fun_mk (st := s_qnestrows) l16 c16 k16
  have F17 := fun_mk (st := s_qdeepest) l17 c17 k17
  have F18 := fun_mk (st := s_qtakenoff) l18 c18 k18
  have F19 := fun_mk (st := s_qisquoted) l19 c19 k19
  have F20 := fun_mk (st := s_qreadleaf) l20 c20 k20
  have F21 := fun_mk (st := s_qmadecall) l21 c21 k21
  have F22 := fun_mk (st := s_qreadterm) l22 c22 k22
  have F23 := fun_mk (st := s_qdeed) l23 c23 k23
  have F24 := fun_mk (st := s_qword) l24 c24 k24
  have F25 := fun_mk (st := s_qname) l25 c25 k25
  have F26 := fun_mk (st := s_qleaf) l26 c26 k26
  have F27 := fun_mk (st := s_qcall) l27 c27 k27
  have F28 := fun_mk (st := s_qlines) l28 c28 k28
  have F29 := fun_mk (st := s_qedited) l29 c29 k29
  have F30 := fun_mk (st := s_qwords) l30 c30 k30
  have F31 := fun_mk (st := s_qmadeof) l31 c31 k31
  have F32 := fun_mk (st := s_qone) l32 c32 k32
  have F33 := fun_mk (st := s_qdue) l33 c33 k33
  have F34 := fun_mk (st := s_qalike) l34 c34 k34
  have F35 := fun_mk (st := s_qtold) l35 c35 k35
  have F36 := fun_mk (st := s_qread) l36 c36 k36
  have F37 := fun_mk (st := s_qgreat) l37 c37 k37
  have F38 := fun_mk (st := s_law) l38 c38 k38
  exact ⟨⟨f0, _, f1, _, f2, _, f3, _, f4, _, f5, _, f6, _, f7, _, f8, _, f9, _, f10, _, f11, _, f12, _, f13, _, f14, _, f15, _, f16, _, f17, _, f18, _, f19, _, f20, _, f21, _, f22, _, f23, _, f24, _, f25, _, f26, _, f27, _, f28, _, f29, _, f30, _, f31, _, f32, _, f33, _, f34, _, f35, _, f36, _, f37, _, f38, _, t_LIMIT, t_MOST_SIGNS, t_MOST_NUMS, t_MOST_LETTERS, t_MOST_FIGURES, t_MOST_PARTS, t_MOST_DEPTH, t_MOST_TERMS, t_SIGNS, t_LETTERS, t_FIGURES, t_PLACES, t_QUOTE, k_LeafError, k_NoText, k_TooGreat, k_NoName, k_NoRule, k_NoKind, k_NoTree, k_NoPlace, k_NoGiven, k_NoWalk, k_Ring, k_NestReader, a_NEEDS, NEEDS_0, NEEDS_1, NEEDS_2, NEEDS_3, NEEDS_4, NEEDS_5, NEEDS_6, NEEDS_7, NEEDS_8, NEEDS_9, NEEDS_10⟩, ⟨F0, bd1 (ps := ["thing"]) F0 rfl (fun _ _ _ _ _ _ _ => rfl), PySem.W.mg_of X G a0, F1, bd1 (ps := ["thing"]) F1 rfl (fun _ _ _ _ _ _ _ => rfl), PySem.W.mg_of X G a1, F2, bd1 (ps := ["thing"]) F2 rfl (fun _ _ _ _ _ _ _ => rfl), PySem.W.mg_of X G a2, F3, bd2 (ps := ["kind", "thing"]) F3 rfl (fun _ _ _ _ _ _ _ _ => rfl), PySem.W.mg_of X G a3, F4, bd1 (ps := ["word"]) F4 rfl (fun _ _ _ _ _ _ _ => rfl), PySem.W.mg_of X G a4, F5, bd1 (ps := ["word"]) F5 rfl (fun _ _ _ _ _ _ _ => rfl), PySem.W.mg_of X G a5, F6, bd1 (ps := ["word"]) F6 rfl (fun _ _ _ _ _ _ _ => rfl), PySem.W.mg_of X G a6, F7, bd1 (ps := ["word"]) F7 rfl (fun _ _ _ _ _ _ _ => rfl), PySem.W.mg_of X G a7, F8, bd2 (ps := ["text", "stops"]) F8 rfl (fun _ _ _ _ _ _ _ _ => rfl), PySem.W.mg_of X G a8, F9, bd1 (ps := ["self"]) F9 rfl (fun _ _ _ _ _ _ _ => rfl), ⟨a9, i9, k9⟩, F10, bd3 (ps := ["self", "word", "count"]) F10 rfl (fun _ _ _ _ _ _ _ _ _ => rfl), ⟨a10, i10, k10⟩, F11, bd2 (ps := ["self", "word"]) F11 rfl (fun _ _ _ _ _ _ _ _ => rfl), ⟨a11, i11, k11⟩, F12, bd2 (ps := ["self", "word"]) F12 rfl (fun _ _ _ _ _ _ _ _ => rfl), ⟨a12, i12, k12⟩, F13, bd1 (ps := ["self"]) F13 rfl (fun _ _ _ _ _ _ _ => rfl), ⟨a13, i13, k13⟩, F14, bd1 (ps := ["self"]) F14 rfl (fun _ _ _ _ _ _ _ => rfl), ⟨a14, i14, k14⟩, F15, bd1 (ps := ["self"]) F15 rfl (fun _ _ _ _ _ _ _ => rfl), ⟨a15, i15, k15⟩, F16, bd2 (ps := ["text", "between"]) F16 rfl (fun _ _ _ _ _ _ _ _ => rfl), PySem.W.mg_of X G a16, F17, bd1 (ps := ["rows"]) F17 rfl (fun _ _ _ _ _ _ _ => rfl), PySem.W.mg_of X G a17, F18, bd2 (ps := ["ready", "count"]) F18 rfl (fun _ _ _ _ _ _ _ _ => rfl), PySem.W.mg_of X G a18, F19, bd1 (ps := ["word"]) F19 rfl (fun _ _ _ _ _ _ _ => rfl), PySem.W.mg_of X G a19, F20, bd1 (ps := ["word"]) F20 rfl (fun _ _ _ _ _ _ _ => rfl), PySem.W.mg_of X G a20, F21, bd2 (ps := ["deed", "terms"]) F21 rfl (fun _ _ _ _ _ _ _ _ => rfl), PySem.W.mg_of X G a21, F22, bd1 (ps := ["text"]) F22 rfl (fun _ _ _ _ _ _ _ => rfl), PySem.W.mg_of X G a22, F23, bd1 (ps := ["_law_cell"]) F23 rfl (fun _ _ _ _ _ _ _ => rfl), PySem.W.mg_of X G a23, F24, bd1 (ps := ["_law_cell"]) F24 rfl (fun _ _ _ _ _ _ _ => rfl), PySem.W.mg_of X G a24, F25, bd1 (ps := ["_law_cell"]) F25 rfl (fun _ _ _ _ _ _ _ => rfl), PySem.W.mg_of X G a25, F26, bd1 (ps := ["_law_cell"]) F26 rfl (fun _ _ _ _ _ _ _ => rfl), PySem.W.mg_of X G a26, F27, bd2 (ps := ["_law_cell", "_law_some"]) F27 rfl (fun _ _ _ _ _ _ _ _ => rfl), PySem.W.mg_of X G a27, F28, bd3 (ps := ["_law_cells", "_law_most", "_law_deepest"]) F28 rfl (fun _ _ _ _ _ _ _ _ _ => rfl), PySem.W.mg_of X G a28, F29, bd2 (ps := ["_law_line", "_law_cell"]) F29 rfl (fun _ _ _ _ _ _ _ _ => rfl), PySem.W.mg_of X G a29, F30, bd1 (ps := ["_law_line"]) F30 rfl (fun _ _ _ _ _ _ _ => rfl), PySem.W.mg_of X G a30, F31, bd2 (ps := ["_law_word_here", "_law_signs"]) F31 rfl (fun _ _ _ _ _ _ _ _ => rfl), PySem.W.mg_of X G a31, F32, bd2 (ps := ["_law_row", "_law_at"]) F32 rfl (fun _ _ _ _ _ _ _ _ => rfl), PySem.W.mg_of X G a32, F33, bd1 (ps := ["_law_line"]) F33 rfl (fun _ _ _ _ _ _ _ => rfl), PySem.W.mg_of X G a33, F34, bd2 (ps := ["_law_found", "_law_due_here"]) F34 rfl (fun _ _ _ _ _ _ _ _ => rfl), PySem.W.mg_of X G a34, F35, bd1 (ps := ["_law_line"]) F35 rfl (fun _ _ _ _ _ _ _ => rfl), PySem.W.mg_of X G a35, F36, bd2 (ps := ["_law_line", "_law_great_here"]) F36 rfl (fun _ _ _ _ _ _ _ _ => rfl), PySem.W.mg_of X G a36, F37, bd3 (ps := ["_law_cell", "_law_leaf_here", "_law_other"]) F37 rfl (fun _ _ _ _ _ _ _ _ _ => rfl), PySem.W.mg_of X G a37, F38, bd1 (ps := ["_law_script"]) F38 rfl (fun _ _ _ _ _ _ _ => rfl), PySem.W.mg_of X G a38, PySem.W.mg_none_of X G z_ValueError, PySem.W.mg_none_of X G z_all, PySem.W.mg_none_of X G z_bool, PySem.W.mg_none_of X G z_enumerate, PySem.W.mg_none_of X G z_int, PySem.W.mg_none_of X G z_isinstance, PySem.W.mg_none_of X G z_len, PySem.W.mg_none_of X G z_max, PySem.W.mg_none_of X G z_min, PySem.W.mg_none_of X G z_range, PySem.W.mg_none_of X G z_reversed, PySem.W.mg_none_of X G z_str, PySem.W.mg_none_of X G z_sum, PySem.W.mg_none_of X G z_tuple, PySem.W.mg_none_of X G z_zip, PySem.W.mg_of X G c_LIMIT, PySem.W.mg_of X G c_MOST_SIGNS, PySem.W.mg_of X G c_MOST_NUMS, PySem.W.mg_of X G c_MOST_LETTERS, PySem.W.mg_of X G c_MOST_FIGURES, PySem.W.mg_of X G c_MOST_PARTS, PySem.W.mg_of X G c_MOST_DEPTH, PySem.W.mg_of X G c_MOST_TERMS, PySem.W.mg_of X G c_SIGNS, PySem.W.mg_of X G c_LETTERS, PySem.W.mg_of X G c_FIGURES, PySem.W.mg_of X G c_PLACES, PySem.W.mg_of X G c_QUOTE, PySem.W.mg_of X G m_LeafError, e_LeafError, PySem.W.mg_of X G m_NoText, e_NoText, ⟨e_NoText, xga_NoText, xgt_NoText, xca_NoText, xsp_NoText, xtk_NoText, xmo_NoText, xmb_NoText⟩, u_NoText_LeafError, i_NoText_0, i_NoText_1, i_NoText_2, i_NoText_3, PySem.W.mg_of X G m_TooGreat, e_TooGreat, ⟨e_TooGreat, xga_TooGreat, xgt_TooGreat, xca_TooGreat, xsp_TooGreat, xtk_TooGreat, xmo_TooGreat, xmb_TooGreat⟩, u_TooGreat_LeafError, i_TooGreat_0, i_TooGreat_1, i_TooGreat_2, i_TooGreat_3, PySem.W.mg_of X G m_NoName, PySem.W.mg_of X G m_NoRule, PySem.W.mg_of X G m_NoKind, PySem.W.mg_of X G m_NoTree, PySem.W.mg_of X G m_NoPlace, PySem.W.mg_of X G m_NoGiven, PySem.W.mg_of X G m_NoWalk, PySem.W.mg_of X G m_Ring, PySem.W.mg_of X G m_NestReader, PySem.W.mg_of X G c_NEEDS, ⟨es_NEEDS, n_NEEDS, dl_NEEDS, dk_NEEDS, dv_NEEDS⟩, y_NEEDS, fun _ => .inr ⟨_, _, _, q_NEEDS_0, rfl, rfl, (by show 2 <= sizeLine; decide), .cons ⟨_, rfl⟩ (.cons ⟨_, rfl⟩ (.nil))⟩, fun _ => .inr ⟨_, _, _, q_NEEDS_1, rfl, rfl, (by show 2 <= sizeLine; decide), .cons ⟨_, rfl⟩ (.cons ⟨_, rfl⟩ (.nil))⟩, fun _ => .inr ⟨_, _, _, q_NEEDS_2, rfl, rfl, (by show 2 <= sizeLine; decide), .cons ⟨_, rfl⟩ (.cons ⟨_, rfl⟩ (.nil))⟩, fun _ => .inr ⟨_, _, _, q_NEEDS_3, rfl, rfl, (by show 2 <= sizeLine; decide), .cons ⟨_, rfl⟩ (.cons ⟨_, rfl⟩ (.nil))⟩, fun _ => .inr ⟨_, _, _, q_NEEDS_4, rfl, rfl, (by show 2 <= sizeLine; decide), .cons ⟨_, rfl⟩ (.cons ⟨_, rfl⟩ (.nil))⟩, fun _ => .inr ⟨_, _, _, q_NEEDS_5, rfl, rfl, (by show 1 <= sizeLine; decide), .cons ⟨_, rfl⟩ (.nil)⟩, fun _ => .inr ⟨_, _, _, q_NEEDS_6, rfl, rfl, (by show 1 <= sizeLine; decide), .cons ⟨_, rfl⟩ (.nil)⟩, fun _ => .inr ⟨_, _, _, q_NEEDS_7, rfl, rfl, (by show 2 <= sizeLine; decide), .cons ⟨_, rfl⟩ (.cons ⟨_, rfl⟩ (.nil))⟩, fun _ => .inr ⟨_, _, _, q_NEEDS_8, rfl, rfl, (by show 2 <= sizeLine; decide), .cons ⟨_, rfl⟩ (.cons ⟨_, rfl⟩ (.nil))⟩, fun _ => .inr ⟨_, _, _, q_NEEDS_9, rfl, rfl, (by show 2 <= sizeLine; decide), .cons ⟨_, rfl⟩ (.cons ⟨_, rfl⟩ (.nil))⟩, fun _ => .inr ⟨_, _, _, q_NEEDS_10, rfl, rfl, (by show 1 <= sizeLine; decide), .cons ⟨_, rfl⟩ (.nil)⟩, ⟨opg_NestReader, ohd_NestReader, opo_NestReader, osa_NestReader⟩, ⟨omk_NestReader, a9, i9, okc_NestReader⟩, n_rows, n_open_words, n_inner_counts, n_closed⟩⟩
end K07
namespace TR
open PySem L2 TM
section
variable {most n : Nat} {R : Nat -> Rw} {tr : Nat -> Tr}
end
end TR
namespace NS
open PySem L2 TM
inductive Ns where
  | n (w : List Nat) (ins : List Ns)
mutual
def txt (sep : Nat) : Ns -> List Nat
  | .n w ins => w ++ brk sep ins
def brk (sep : Nat) : List Ns -> List Nat
  | [] => []
  | i :: is => 40 :: (txt sep i ++ (txts sep is ++ [41]))
def txts (sep : Nat) : List Ns -> List Nat
  | [] => []
  | i :: is => sep :: (txt sep i ++ txts sep is)
end
def inn (sep : Nat) : List Ns -> List Nat
  | [] => []
  | i :: is => txt sep i ++ txts sep is
abbrev Row := Str × Nat × Nat
mutual
def rws (l : Nat) : Ns -> List Row
  | .n w ins => rwss (l + 1) ins ++ [(mkS w, ins.length, l)]
def rwss (l : Nat) : List Ns -> List Row
  | [] => []
  | i :: is => rws l i ++ rwss l is
end
def stp (sep c : Nat) : Bool := c == 40 || c == sep || c == 41
inductive Cl (sep : Nat) : Ns -> Prop
  | n {w : List Nat} {ins : List Ns} : (∀ c ∈ w, stp sep c = false) -> (∀ i ∈ ins, Cl sep i) -> Cl sep (.n w ins)
def pcs (sep : Nat) (acc : List Nat) : List Nat -> List (Str × Str)
  | [] => [(mkS acc, mkS [])]
  | c :: r => if stp sep c = true then (mkS acc, mkS [c]) :: pcs sep [] r else pcs sep (acc ++ [c]) r
theorem pcs_word (sep : Nat) {w : List Nat} : ∀ {acc r : List Nat}, (∀ c ∈ w, stp sep c = false) -> pcs sep acc (w ++ r) = pcs sep (acc ++ w) r := by
  induction w with
  | nil => intro acc r _; rw [List.nil_append, List.append_nil]
  | cons c w ih =>
    intro acc r h
    rw [List.cons_append, pcs, if_neg (by rw [h c (by simp)]; decide), ih fun x hx => h x (by simp [hx]), List.append_assoc]
    rfl
theorem pcs_stop {sep c : Nat} {acc r : List Nat} (h : stp sep c = true) : pcs sep acc (c :: r) = (mkS acc, mkS [c]) :: pcs sep [] r := by rw [pcs, if_pos h]
theorem stp40 (sep : Nat) : stp sep 40 = true := by unfold stp; simp
theorem stp41 (sep : Nat) : stp sep 41 = true := by unfold stp; simp
theorem stpS (sep : Nat) : stp sep sep = true := by unfold stp; simp
theorem pcs_len (sep : Nat) : ∀ (z acc : List Nat), (pcs sep acc z).length <= z.length + 1
  | [], acc => by rw [pcs]; simp
  | c :: z, acc => by
    rw [pcs]
    split
    · rw [List.length_cons, List.length_cons]
      have := pcs_len sep z []
      omega
    · have := pcs_len sep z (acc ++ [c])
      rw [List.length_cons]
      omega
structure Ms where
  rs : List Row
  op : List (Str × Nat)
  cl : Bool
inductive Endd : Ms -> Str -> List Row -> Prop
  | word {rs : List Row} {op : List (Str × Nat)} {w : Str} : Endd ⟨rs, op, false⟩ w (rs ++ [(w, 0, op.length + 1)])
  | again {rs : List Row} {op : List (Str × Nat)} : Endd ⟨rs, op, true⟩ (mkS []) rs
inductive Step (sep : Nat) : Ms -> Str × Str -> Ms -> Prop
  | opn {rs : List Row} {op : List (Str × Nat)} {w : Str} : Step sep ⟨rs, op, false⟩ (w, mkS [40]) ⟨rs, op ++ [(w, 0)], false⟩
  | mid {rs rs' : List Row} {op : List (Str × Nat)} {cl : Bool} {o w : Str} {c : Nat} : Endd ⟨rs, op ++ [(o, c)], cl⟩ w rs' -> Step sep ⟨rs, op ++ [(o, c)], cl⟩ (w, mkS [sep]) ⟨rs', op ++ [(o, c + 1)], false⟩
  | cls {rs rs' : List Row} {op : List (Str × Nat)} {cl : Bool} {o w : Str} {c : Nat} : Endd ⟨rs, op ++ [(o, c)], cl⟩ w rs' -> Step sep ⟨rs, op ++ [(o, c)], cl⟩ (w, mkS [41]) ⟨rs' ++ [(o, c + 1, op.length + 1)], op, true⟩
  | fin {rs rs' : List Row} {op : List (Str × Nat)} {cl : Bool} {w : Str} : Endd ⟨rs, op, cl⟩ w rs' -> Step sep ⟨rs, op, cl⟩ (w, mkS []) ⟨rs', op, cl⟩
def Run (sep : Nat) : Ms -> List (Str × Str) -> Ms -> Prop
  | st, [], st' => st = st'
  | st, p :: ps, st' => ∃ st1, Step sep st p st1 /\ Run sep st1 ps st'
def aft (rs : List Row) (op : List (Str × Nat)) (i : Ns) : Ms × List Nat :=
  match i with
  | .n w [] => (⟨rs, op, false⟩, w)
  | .n w (j :: js) => (⟨rs ++ rws (op.length + 1) (.n w (j :: js)), op, true⟩, [])
theorem aft_end (rs : List Row) (op : List (Str × Nat)) (i : Ns) : ∃ cl, (aft rs op i).1 = ⟨(aft rs op i).1.rs, op, cl⟩ /\ Endd ⟨(aft rs op i).1.rs, op, cl⟩ (mkS (aft rs op i).2) (rs ++ rws (op.length + 1) i) := by
  match i with
  | .n w [] =>
    refine ⟨false, rfl, ?_⟩
    have e : rws (op.length + 1) (.n w []) = [(mkS w, 0, op.length + 1)] := by rw [rws, rwss]; rfl
    rw [e]
    exact .word
  | .n w (j :: js) => exact ⟨true, rfl, .again⟩
mutual
theorem run_one {sep : Nat} : ∀ (i : Ns), Cl sep i -> ∀ (rs : List Row) (op : List (Str × Nat)) (r : List Nat) (st : Ms), Run sep (aft rs op i).1 (pcs sep (aft rs op i).2 r) st -> Run sep ⟨rs, op, false⟩ (pcs sep [] (txt sep i ++ r)) st
  | .n w [], h, rs, op, r, st, g => by
    cases h with
    | n hw hi =>
      rw [txt, brk, List.append_nil, pcs_word sep hw]
      exact g
  | .n w (j :: js), h, rs, op, r, st, g => by
    cases h with
    | n hw hi =>
      rw [txt, brk, List.append_assoc, pcs_word sep hw, List.cons_append, pcs_stop (stp40 sep)]
      refine ⟨_, .opn, ?_⟩
      have et : (txt sep j ++ (txts sep js ++ [41])) ++ r = inn sep (j :: js) ++ ([41] ++ r) := by rw [inn]; simp
      rw [et]
      have e : rws (op.length + 1) (.n w (j :: js)) = rwss (op.length + 2) (j :: js) ++ [(mkS w, js.length + 1, op.length + 1)] := by rw [rws]; rfl
      have g' : Run sep ⟨rs ++ rws (op.length + 1) (.n w (j :: js)), op, true⟩ (pcs sep [] r) st := g
      rw [e, <- List.append_assoc] at g'
      refine run_some (j :: js) hi rs op (mkS w) 0 r st (List.cons_ne_nil _ _) ?_
      rw [Nat.zero_add]
      exact g'
theorem run_some {sep : Nat} : ∀ (js : List Ns), (∀ x ∈ js, Cl sep x) -> ∀ (rs : List Row) (op : List (Str × Nat)) (o : Str) (c : Nat) (r : List Nat) (st : Ms), js ≠ [] ->
    Run sep ⟨(rs ++ rwss (op.length + 2) js) ++ [(o, c + js.length, op.length + 1)], op, true⟩ (pcs sep [] r) st -> Run sep ⟨rs, op ++ [(o, c)], false⟩ (pcs sep [] (inn sep js ++ ([41] ++ r))) st
  | [], hjs, rs, op, o, c, r, st, hn, g => absurd rfl hn
  | [j], hjs, rs, op, o, c, r, st, hn, g => by
    have hj := hjs j (by simp)
    rw [inn, txts, List.append_nil]
    refine run_one j hj rs (op ++ [(o, c)]) _ st ?_
    obtain ⟨cl, es, he⟩ := aft_end rs (op ++ [(o, c)]) j
    rw [List.cons_append, List.nil_append, pcs_stop (stp41 sep), es]
    refine ⟨_, .cls he, ?_⟩
    have e : rwss (op.length + 2) [j] = rws ((op ++ [(o, c)]).length + 1) j := by rw [rwss, rwss, List.append_nil, List.length_append]; rfl
    rw [e] at g
    exact g
  | j :: k :: ks, hjs, rs, op, o, c, r, st, hn, g => by
    have hj := hjs j (by simp)
    rw [inn, List.append_assoc]
    refine run_one j hj rs (op ++ [(o, c)]) _ st ?_
    obtain ⟨cl, es, he⟩ := aft_end rs (op ++ [(o, c)]) j
    rw [txts, List.cons_append, pcs_stop (stpS sep), es]
    refine ⟨_, .mid he, ?_⟩
    refine run_some (k :: ks) (fun x hx => hjs x (by simp [hx])) _ op o (c + 1) r st (List.cons_ne_nil _ _) ?_
    have e : rs ++ rwss (op.length + 2) (j :: k :: ks) = (rs ++ rws ((op ++ [(o, c)]).length + 1) j) ++ rwss (op.length + 2) (k :: ks) := by rw [rwss, List.append_assoc, List.length_append]; rfl
    have ec : c + (j :: k :: ks).length = c + 1 + (k :: ks).length := by rw [List.length_cons, List.length_cons]; omega
    rw [e, ec] at g
    exact g
end
theorem run_all {sep : Nat} {i : Ns} (h : Cl sep i) : ∃ cl, Run sep ⟨[], [], false⟩ (pcs sep [] (txt sep i)) ⟨rws 1 i, [], cl⟩ := by
  obtain ⟨cl, es, he⟩ := aft_end [] [] i
  refine ⟨cl, ?_⟩
  have g := run_one i h [] [] [] ⟨rws 1 i, [], cl⟩ ?_
  · rw [List.append_nil] at g
    exact g
  · rw [pcs, es]
    exact ⟨_, .fin he, rfl⟩
theorem endd_op {st : Ms} {w : Str} {rs : List Row} (h : Endd st w rs) : rs.length <= st.rs.length + 1 := by
  cases h with
  | word => rw [List.length_append]; simp
  | again => exact Nat.le_succ _
theorem step_wt {sep : Nat} {st st1 : Ms} {p : Str × Str} (h : Step sep st p st1) : st1.rs.length <= st.rs.length + 2 /\ st1.op.length <= st.op.length + 1 := by
  cases h with
  | opn => simp
  | mid he => have := endd_op he; simp at this ⊢; omega
  | cls he => have := endd_op he; simp at this ⊢; omega
  | fin he => have := endd_op he; simp at this ⊢; omega
mutual
def many : Ns -> Nat
  | .n _ ins => 1 + manys ins
def manys : List Ns -> Nat
  | [] => 0
  | i :: is => many i + manys is
end
mutual
theorem rws_len : ∀ (i : Ns) {l : Nat}, (rws l i).length = many i
  | .n w ins, l => by rw [rws, many, List.length_append, rwss_len ins]; simp; omega
theorem rwss_len : ∀ (is : List Ns) {l : Nat}, (rwss l is).length = manys is
  | [], l => by rw [rwss, manys]; rfl
  | i :: is, l => by rw [rwss, manys, List.length_append, rws_len i, rwss_len is]
end
end NS
namespace TR
open PySem L2 TM NS
end TR
namespace K07
open PySem L2 NS TR
open TM hiding Endd Ms Run Step pcs run_all
def inS (s : Str) (c : Nat) : Bool := !(Builtin.Str.occurrences s ⟨#[c]⟩ 0 s.length 1).isEmpty
abbrev S26 : Str := "abcdefghijklmnopqrstuvwxyz"
abbrev S10 : Str := "0123456789"
abbrev S3 : Str := "(,)"
theorem in26 : ∀ c, c < 128 -> letOk c = true -> inS S26 c = true := by decide +kernel
theorem in10 : ∀ c, c < 128 -> figOk c = true -> inS S10 c = true := by decide +kernel
theorem in3 : ∀ c, c < 128 -> inS S3 c = stp 44 c := by decide +kernel
theorem sgn_lt {c : Nat} (h : sgnOk c = true) : c < 128 := by
  unfold sgnOk letOk figOk at h
  simp only [Bool.or_eq_true, Bool.and_eq_true, decide_eq_true_eq] at h
  omega
theorem let_lt {c : Nat} (h : letOk c = true) : c < 128 := sgn_lt (by unfold sgnOk; rw [h]; rfl)
theorem fig_lt {c : Nat} (h : figOk c = true) : c < 128 := sgn_lt (by unfold sgnOk; rw [h, Bool.or_true])
def allB (s z : Str) : Bool := z.cps.toList.all fun c => inS s c
theorem all_yes {s z : Str} (h : ∀ c ∈ z.cps.toList, inS s c = true) : allB s z = true := List.all_eq_true.mpr h
def nmB (z : Str) : Bool := (decide (1 <= z.length) && decide (z.length <= 8)) && allB S26 z
def numB (z : Str) : Bool := (decide (1 <= z.length) && decide (z.length <= 18)) && (!(decide (z.cps.toList.head? = some 48) && !decide (z = "0")) && allB S10 z)
def spName : Sp := fun vs H Q _ => ∃ z, vs = [.str z] /\ z.length <= 20000 /\ ∀ H', Same H H' -> Q (.bl (nmB z)) H'
def spNumber : Sp := fun vs H Q _ => ∃ z, vs = [.str z] /\ z.length <= 20000 /\ ∀ H', Same H H' -> Q (.bl (numB z)) H'
theorem from_list {x : Str} {j : Nat} (h : j <= x.cps.toList.length) : (Txt.slice x (some (j : Int)) none).cps.toList = x.cps.toList.drop j := by
  have := PySem.StrLaws.sliceText_from (x := x) (i := (j : Int)) ⟨by omega, by omega⟩
  have e : Txt.slice x (some (j : Int)) none = PySem.StrLaws.sliceText x (some (j : Int)) none := rfl
  rw [e, this]
  simp
  rw [List.take_of_length_le (by simp)]
theorem from_list' {x : Str} {k : Int} (j : Nat) (e : k = (j : Int)) (h : j <= x.cps.toList.length) : (Txt.slice x (some k) none).cps.toList = x.cps.toList.drop j := by
  rw [e]
  exact from_list h
theorem atI_0 {l : List Nat} {c : Nat} (h : l.head? = some c) : atI l 0 = some c := by
  cases l with
  | nil => cases h
  | cons a r => exact (atI_head a r).trans h
theorem ifS_by {c : TT} {t u : TS} {D : Ends} {σ : St} {H : Hp} (A B : Hp -> Prop) (hc : ∀ Q : Bool -> Hp -> Prop, (∀ H1, A H1 -> Q true H1) -> (∀ H1, B H1 -> Q false H1) -> c σ H Q) (h1 : ∀ H1, A H1 -> t D σ H1) (h2 : ∀ H1, B H1 -> u D σ H1) : tIfS c t u D σ H := by
  refine hc _ (fun H1 a => ?_) (fun H1 b => ?_)
  · exact iteT (h1 H1 a)
  · exact iteF (h2 H1 b)
theorem seq_ifS_by {c : TT} {t u rest : TS} {D : Ends} {σ : St} {H : Hp} (A B : Hp -> Prop) (hc : ∀ Q : Bool -> Hp -> Prop, (∀ H1, A H1 -> Q true H1) -> (∀ H1, B H1 -> Q false H1) -> c σ H Q) (h1 : ∀ H1, A H1 -> t { D with nx := rest D } σ H1) (h2 : ∀ H1, B H1 -> u { D with nx := rest D } σ H1) : tSeq (tIfS c t u) rest D σ H := ifS_by A B hc h1 h2
theorem iteNe {c A B : Prop} [Decidable c] (h1 : ¬ c -> A) (h2 : c -> B) : if (!decide c) = true then A else B := by
  by_cases h : c
  · rw [decide_eq_true h]
    exact iteF (h2 h)
  · rw [decide_eq_false h]
    exact iteT (h1 h)
theorem one_eq {c d : Nat} : (V.str ⟨#[c]⟩ = V.str ⟨#[d]⟩) ↔ c = d := ⟨fun h => by
  have := congrArg (fun s : Str => s.cps.toList) (V.str.inj h)
  simpa using this, fun h => by rw [h]⟩
theorem nought : (Str.ofString "0") = ⟨#[48]⟩ := by decide
theorem head_of {l : List Nat} (h : l ≠ []) : ∃ c, l.head? = some c /\ c ∈ l := by
  cases l with
  | nil => exact absurd rfl h
  | cons a r => exact ⟨a, rfl, by simp⟩
theorem ne_of_len {z : Str} (h : 1 <= z.length) : z.cps.toList ≠ [] := fun e => by
  rw [len_list, e] at h
  exact absurd h (by decide)
theorem app_len (a b : Str) : (a ++ b).length = a.length + b.length := by rw [len_list, len_list, len_list, app_list, List.length_append]
theorem mid_list {x : Str} {k l : Int} (a b : Nat) (ea : k = (a : Int)) (eb : l = (b : Int)) (hab : a <= b) (hb : b <= x.cps.toList.length) : (Txt.slice x (some k) (some l)).cps.toList = (x.cps.toList.take b).drop a := by
  subst ea eb
  have e : Txt.slice x (some (a : Int)) (some (b : Int)) = PySem.StrLaws.sliceText x (some (a : Int)) (some (b : Int)) := rfl
  rw [e, PySem.StrLaws.sliceText_nat x hab (by rw [len_list]; exact hb)]
  show ((x.cps.toList.drop a).take (b - a)).toArray.toList = _
  rw [List.toList_toArray, <- List.drop_take]
section
variable {P : Program} {w : World} {K : PySem.W.Frag} {mg : Str -> Option Value} {base : Heap} {T : Adr}
theorem ok_name (X : Tx K w mg T) : FnOk P w K mg base CX0 1 T.qisname T.d_qisname ["word"] spName := by
  refine X.F_qisname.okQ sc_qisname (fun vs H Q E h => ?_) (fun cdv A outer s H vs Q E hr h => ?_)
  · obtain ⟨_, rfl, _⟩ := h
    rfl
  obtain ⟨x, rfl, hx, q⟩ := h
  refine ⟨_, (qss_cons (qs_if (qt_not (qt_chain op_le op_le qe_int (qe_callB call_len_str rfl X.z_len PySem.boot_len (qaN (qv 0) qa_nil)) (qe_glob rfl X.c_MOST_LETTERS (v := V.int 8) ⟨_, rfl⟩))) (qss_one (qs_ret qe_bl)) qss_nil) (qss_one (qs_ret (qe_callB (call_all rfl) rfl X.z_all PyProof.Rows.boot_all (qaE (qe_comp (ys := []) (js := []) rfl rfl (qi_str (qv 0)) (fun _ _ _ _ _ => qif_nil) (fun _ _ _ _ _ => (qe_cmpR op_in_str (qv 0) (qe_glob rfl X.c_LETTERS (v := V.str "abcdefghijklmnopqrstuvwxyz") ⟨_, rfl⟩) rfl))) qa_nil))))), ?_⟩
  refine ⟨_, rfl, x, rfl, fits2 (by omega), _, _, rfl, rfl, _, rfl, iteDd (fun h1 => ⟨_, _, rfl, rfl, _, rfl, iteNe (fun h8 => ?_) (fun h8 => ?_)⟩) (fun h1 => ?_)⟩
  · have e : nmB x = false := by
      unfold nmB
      rw [decide_eq_false (show ¬ x.length <= 8 by omega), Bool.and_false, Bool.false_and]
    rw [e] at q
    exact q H (Same.refl _)
  · have e : nmB x = allB S26 x := by
      unfold nmB
      rw [decide_eq_true (show 1 <= x.length by omega), decide_eq_true (show x.length <= 8 by omega)]
      rfl
    rw [e] at q
    refine ⟨_, rfl, x, rfl, fun D hD => comp_strM (ys := x.cps.toList.map fun c => V.bl (inS S26 c)) (fitsL (by show x.length <= _; omega)) (by simp) hD (fun i c y H' hc hy sm Q' q' => ?_) (fun H' sm hl => ⟨D, x.cps.toList.map (inS S26), rfl, SqL.of (by rw [hl, List.map_map]; rfl), ?_⟩)⟩
    · refine ⟨_, rfl, _, _, rfl, rfl, ?_⟩
      have e : y = V.bl (inS S26 c) := by
        rw [List.getElem?_map, Array.getElem?_toList, hc] at hy
        exact (Option.some.inj hy).symm
      rw [e] at q'
      exact q' _ (Same.refl _)
    · have e : (x.cps.toList.map (inS S26)).all id = allB S26 x := by
        rw [List.all_map]
        rfl
      rw [e]
      exact q H' sm
  · have e : nmB x = false := by
      unfold nmB
      rw [decide_eq_false (show ¬ 1 <= x.length by omega), Bool.false_and, Bool.false_and]
    rw [e] at q
    exact ⟨_, rfl, iteY rfl (q H (Same.refl _))⟩
theorem ok_number (X : Tx K w mg T) : FnOk P w K mg base CX0 1 T.qisnumber T.d_qisnumber ["word"] spNumber := by
  refine X.F_qisnumber.okQ sc_qisnumber (fun vs H Q E h => ?_) (fun cdv A outer s H vs Q E hr h => ?_)
  · obtain ⟨_, rfl, _⟩ := h
    rfl
  obtain ⟨x, rfl, hx, q⟩ := h
  refine ⟨_, (qss_cons (qs_if (qt_not (qt_chain op_le op_le qe_int (qe_callB call_len_str rfl X.z_len PySem.boot_len (qaN (qv 0) qa_nil)) (qe_glob rfl X.c_MOST_FIGURES (v := V.int 18) ⟨_, rfl⟩))) (qss_one (qs_ret qe_bl)) qss_nil) (qss_cons (qs_if (qw_pt (qw_and (qt_cmpR op_eq (qe_ix ix_str (qv 0) qe_int (fun _ _ => rfl)) qe_str (nomark _)) (qw_and1 (qt_cmpR op_ne (qv 0) qe_str (nomark _))))) (qss_one (qs_ret qe_bl)) qss_nil) (qss_one (qs_ret (qe_callB (call_all rfl) rfl X.z_all PyProof.Rows.boot_all (qaE (qe_comp (ys := []) (js := []) rfl rfl (qi_str (qv 0)) (fun _ _ _ _ _ => qif_nil) (fun _ _ _ _ _ => (qe_cmpR op_in_str (qv 0) (qe_glob rfl X.c_FIGURES (v := V.str "0123456789") ⟨_, rfl⟩) rfl))) qa_nil)))))), ?_⟩
  refine ⟨_, rfl, x, rfl, fits2 (by omega), _, _, rfl, rfl, _, rfl, iteDd (fun h1 => ⟨_, _, rfl, rfl, _, rfl, iteNe (fun h8 => ?_) (fun h8 => ?_)⟩) (fun h1 => ?_)⟩
  · have e : numB x = false := by
      unfold numB
      rw [decide_eq_false (show ¬ x.length <= 18 by omega), Bool.and_false, Bool.false_and]
    rw [e] at q
    exact q H (Same.refl _)
  · have e : numB x = (!(decide (x.cps.toList.head? = some 48) && !decide (x = "0")) && allB S10 x) := by
      unfold numB
      rw [decide_eq_true (show 1 <= x.length by omega), decide_eq_true (show x.length <= 18 by omega)]
      rfl
    rw [e] at q
    obtain ⟨c, hc, hm⟩ := head_of (ne_of_len (z := x) (by omega))
    unfold tNext
    dsimp only
    refine seq_ifS_by (fun H1 => Q (.bl false) H1) (fun H1 => H1 = H /\ (decide (x.cps.toList.head? = some 48) && !decide (x = "0")) = false) (fun Q' qT qF => ?_) (fun H1 q => q) (fun H1 e => ?_)
    · refine ⟨_, rfl, x, 0, c, rfl, rfl, fits2 (by omega), atI_0 hc, rfl, _, rfl, iteDd (fun h => ?_) (fun h => qF H ⟨rfl, ?_⟩)⟩
      · have h48 : c = 48 := one_eq.mp (h.trans (by rw [nought]))
        refine ⟨_, rfl, rfl, _, rfl, ?_⟩
        by_cases hx0 : V.str x = V.str "0"
        · rw [decide_eq_true hx0]
          exact qF H ⟨rfl, by rw [decide_eq_true (V.str.inj hx0)]; simp⟩
        · rw [decide_eq_false hx0]
          refine qT H ?_
          have e2 : (decide (x.cps.toList.head? = some 48) && !decide (x = "0")) = true := by
            rw [hc, h48, decide_eq_true rfl, decide_eq_false (fun z => hx0 (by rw [z]))]
            rfl
          rw [e2] at q
          exact q H (Same.refl _)
      · have : ¬ x.cps.toList.head? = some 48 := fun z => h (by rw [hc] at z; rw [Option.some.inj z, nought])
        rw [decide_eq_false this]
        rfl
    · obtain ⟨rfl, e⟩ := e
      rw [e] at q
      refine ⟨_, rfl, x, rfl, fun D hD => comp_strM (ys := x.cps.toList.map fun c => V.bl (inS S10 c)) (fitsL (by show x.length <= _; omega)) (by simp) hD (fun i c y H' hc hy sm Q' q' => ?_) (fun H' sm hl => ⟨D, x.cps.toList.map (inS S10), rfl, SqL.of (by rw [hl, List.map_map]; rfl), ?_⟩)⟩
      · refine ⟨_, rfl, _, _, rfl, rfl, ?_⟩
        have e : y = V.bl (inS S10 c) := by
          rw [List.getElem?_map, Array.getElem?_toList, hc] at hy
          exact (Option.some.inj hy).symm
        rw [e] at q'
        exact q' _ (Same.refl _)
      · have e : (x.cps.toList.map (inS S10)).all id = allB S10 x := by
          rw [List.all_map]
          rfl
        rw [e]
        exact q H' sm
  · have e : numB x = false := by
      unfold numB
      rw [decide_eq_false (show ¬ 1 <= x.length by omega), Bool.false_and, Bool.false_and]
    rw [e] at q
    exact ⟨_, rfl, iteY rfl (q H (Same.refl _))⟩
end
end K07
namespace K07
open PySem L2 NS TR
open TM hiding Endd Ms Run Step pcs run_all
def PcIs (H : Hp) (p : Str × Str) (v : V) : Prop := ∃ a, v = .ref a /\ H a = some (.tup [.str p.1, .str p.2])
theorem PcIs.same {H H' : Hp} (e : SameT H H') {p : Str × Str} {v : V} (h : PcIs H p v) : PcIs H' p v := by
  obtain ⟨a, x, y⟩ := h
  exact ⟨a, x, e _ _ y⟩
theorem ne_of_none' {H : Hp} {a b : Addr} {o : HO} (h : H a = some o) (n : H b = none) : b ≠ a := fun z => by rw [z, h] at n; cases n
def spPieces : Sp := fun vs H Q _ => ∃ (z st : Str) (sep : Nat), vs = [.str z, .str st] /\ z.length <= 20000 /\ (∀ c ∈ z.cps.toList, inS st c = stp sep c) /\ st.length <= 3 /\
  ∀ l us H', Same H H' -> H l = none -> H' l = some (.lst us) -> L2R (PcIs H') (pcs sep [] z.cps.toList) us -> Q (.ref l) H'
theorem drop_take_snoc {L : List Nat} {s i c : Nat} (hs : s <= i) (hc : L[i]? = some c) : (L.take (i + 1)).drop s = (L.take i).drop s ++ [c] := by
  have hi : i < L.length := (List.getElem?_eq_some_iff.mp hc).1
  rw [List.take_succ, hc, List.drop_append_of_le_length (by rw [List.length_take]; omega)]
  rfl
theorem drop_cons {L : List Nat} {i c : Nat} (hc : L[i]? = some c) : L.drop i = c :: L.drop (i + 1) := by
  obtain ⟨hi, e⟩ := List.getElem?_eq_some_iff.mp hc
  rw [List.drop_eq_getElem_cons hi, e]
section
variable {P : Program} {w : World} {K : PySem.W.Frag} {mg : Str -> Option Value} {base : Heap} {T : Adr}
theorem ok_pieces (X : Tx K w mg T) : FnOk P w K mg base CX0 1 T.qpieces T.d_qpieces ["text", "stops"] spPieces := by
  refine X.F_qpieces.okQ sc_qpieces (fun vs H Q E h => ?_) (fun cdv A outer s H vs Q E hr h => ?_)
  · obtain ⟨_, _, _, rfl, _⟩ := h
    rfl
  obtain ⟨z, st, sep, rfl, hz, hin, hst3, q⟩ := h
  refine ⟨_, (qss_cons (qs_set (i := 2) sc_qpieces.nd rfl (Or.inl rfl) (qe_lst qa_nil)) (qss_cons (qs_set (i := 3) sc_qpieces.nd rfl (Or.inl rfl) qe_int) (qss_cons (qs_for PassesOwn.never rfl (qi_enumS rfl X.z_enumerate (qaN (qv 0) qa_nil)) (qg_tup rfl (qgs_cons (qg_name (i := 4) sc_qpieces.nd rfl (Or.inl rfl)) (qgs_cons (qg_name (i := 5) sc_qpieces.nd rfl (Or.inl rfl)) qgs_nil))) (qss_one (qs_if (qt_cmpR op_in_str (qv 5) (qv 1) rfl) (qss_cons (qs_expr (qe_bm PySem.F.plainAttrs_list PySem.F.slot_list_append PySem.F.type_list_append mt_append (qv 2) (qaT (qe_tup (qaS (qe_slice sl_str (qv 0) (qo_some (qv 3)) (qo_some (qv 4))) (qaN (qv 5) qa_nil))) qa_nil))) (qss_one (qs_set (i := 3) sc_qpieces.nd rfl (Or.inl rfl) (qe_op op_add (qv 4) qe_int)))) qss_nil))) (qss_cons (qs_expr (qe_bm PySem.F.plainAttrs_list PySem.F.slot_list_append PySem.F.type_list_append mt_append (qv 2) (qaT (qe_tup (qaS (qe_slice sl_str (qv 0) (qo_some (qv 3)) qo_none) (qaC qe_str qa_nil))) qa_nil))) (qss_one (qs_ret (qv 2))))))), ?_⟩
  refine ⟨(by show 0 <= sizeLine; decide), fun l hl => ?_⟩
  have hzl : z.cps.size = z.cps.toList.length := by simp
  have hzl2 : z.length = z.cps.toList.length := len_list z
  refine ⟨_, rfl, z, rfl, for_wt (fun i σ H' => ∃ (s : Nat) (ps : List (Str × Str)) (us : List V) (x3 x4 : Option V), σ = [some (.str z), some (.str st), some (.ref l), some (.int (s : Int)), x3, x4] /\ s <= i /\ Same H H' /\ H' l = some (.lst us) /\ L2R (PcIs H') ps us /\ us.length <= i /\
      pcs sep [] z.cps.toList = ps ++ pcs sep ((z.cps.toList.take i).drop s) (z.cps.toList.drop i))
    ⟨0, [], [], none, none, rfl, Nat.le_refl _, same_new hl _, upd_same, .nil, Nat.le_refl _, rfl⟩ (fun _ _ _ _ _ => trivial) ?_ ?_⟩
  · rintro i T' vs' σ H' hi ⟨c, hc, rfl⟩ ⟨s, ps, us, x3, x4, rfl, hs, sm, hus, hps, hlen, he⟩ hT
    have hcl : z.cps.toList[i]? = some c := by rw [Array.getElem?_toList]; exact hc
    have i1 : i < z.cps.toList.length := lt_of_some hcl
    have s1 := same_new hT (.tup [.int i, .str ⟨#[c]⟩])
    refine ⟨T', _, rfl, SqT.of upd_same, rfl, _, _, rfl, _, _, rfl, rfl, ?_⟩
    refine ⟨_, rfl, _, rfl, _, _, rfl, rfl, _, rfl, ?_⟩
    show if inS st c = true then _ else _
    rw [hin c (List.mem_of_getElem? hcl)]
    by_cases hst : stp sep c = true
    · rw [if_pos hst]
      have hus1 := s1 _ _ hus
      refine ⟨_, rfl, .inl ⟨rfl, _, SqL.of hus1⟩, _, rfl, _, rfl, _, rfl, _, rfl, _, rfl, z, rfl, fits2 (by omega), _, rfl, (by show 2 <= sizeLine; decide), fun t ht => ?_⟩
      have s2 := same_new ht (.tup [.str (Txt.slice z (some (s : Int)) (some (i : Int))), .str ⟨#[c]⟩])
      have hus2 := s2 _ _ hus1
      refine ⟨l, us, _, rfl, rfl, hus2, fitsL (by omega), ?_⟩
      refine ⟨_, rfl, _, _, rfl, rfl, ?_⟩
      have es : Txt.slice z (some (s : Int)) (some (i : Int)) = mkS ((z.cps.toList.take i).drop s) := mk_eq (mid_list s i rfl rfl hs (by omega))
      have nl : t ≠ l := ne_of_none' hus1 ht
      refine ⟨i + 1, ps ++ [(mkS ((z.cps.toList.take i).drop s), mkS [c])], us ++ [.ref t], _, _, rfl, Nat.le_refl _, same_upd hl ((sm.trans s1).trans s2), upd_same, ?_, by rw [List.length_append]; simp only [List.length_singleton]; omega, ?_⟩
      · refine (hps.imp fun _ _ => PcIs.same ((sameT (s1.trans s2)).trans (sameT_lst hus2))).snoc ⟨t, rfl, ?_⟩
        rw [upd_ne nl, upd_same, es]
        rfl
      · have en : List.drop (i + 1) (List.take (i + 1) z.cps.toList) = [] := List.drop_eq_nil_of_le (by rw [List.length_take]; omega)
        rw [he, drop_cons hcl, pcs_stop hst, List.append_assoc, en]
        rfl
    · rw [if_neg hst]
      refine ⟨s, ps, us, _, _, rfl, by omega, sm.trans s1, s1 _ _ hus, hps.imp fun _ _ => PcIs.same (sameT s1), by omega, ?_⟩
      rw [he, drop_cons hcl, NS.pcs, if_neg hst, drop_take_snoc hs hcl]
  · rintro σ H' ⟨s, ps, us, x3, x4, rfl, hs, sm, hus, hps, hlen, he⟩
    refine ⟨_, rfl, .inl ⟨rfl, _, SqL.of hus⟩, _, rfl, _, rfl, _, rfl, z, rfl, fits2 (by omega), (by show 2 <= sizeLine; decide), fun t ht => ?_⟩
    have s2 := same_new ht (.tup [.str (Txt.slice z (some (s : Int)) none), .str ""])
    have hus2 := s2 _ _ hus
    refine ⟨l, us, _, rfl, rfl, hus2, fitsL (by omega), ?_⟩
    have es : Txt.slice z (some (s : Int)) none = mkS (z.cps.toList.drop s) := mk_eq (from_list (by omega))
    have nl : t ≠ l := ne_of_none' hus ht
    refine ⟨_, rfl, q l (us ++ [.ref t]) _ (same_upd hl (sm.trans s2)) hl upd_same ?_⟩
    rw [he, hzl, List.drop_length, List.take_length, NS.pcs]
    refine (hps.imp fun _ _ => PcIs.same ((sameT s2).trans (sameT_lst hus2))).snoc ⟨t, rfl, ?_⟩
    rw [upd_ne nl, upd_same, es]
    rfl
end
end K07
namespace L2
open PySem PySem.Spec PyProof.Rows
section
variable {prog : Program} {w : World} {A : Around} {E : Value -> Shared -> Prop} {s : Shared}
theorem lr_collect {it l : Addr} {items : Array Value} {Q : List Value -> Shared -> Prop} (hh : A.handled = none) (hi : s.heap.IsRevIter it l ((items.size : Int) - 1)) (hl : s.heap.IsList l items) (nl : l ≠ it) (hn : items.size <= sizeLine)
    (hQ : ∀ (h' : Heap) tk acc, s.heap.objs.size <= h'.objs.size -> (∀ b o, b ≠ it -> s.heap.get? b = some o -> h'.get? b = some o) -> ItemsOf (fun i v => items[items.size - 1 - i]? = some v) acc items.size -> Q acc.toList { s with heap := h', toks := tk }) :
    wpAny (model prog w) A (collect (.ref it)) Q E s := by
  have li : it < s.heap.objs.size := let ⟨_, e, _⟩ := hi; Heap.lt_size e
  have ll : l < s.heap.objs.size := let ⟨_, e, _⟩ := hl; Heap.lt_size e
  have nS : s.heap.objs.size ≠ it := Nat.ne_of_gt li
  have nSl : s.heap.objs.size ≠ l := Nat.ne_of_gt ll
  have W := (Walks.listRev (prog := prog) (w := w) (A := A.in1) hh it l nl items).toS
  unfold collect
  refine wpAny_bind (wpAny_runValue (codeAny_builtin F.entry_proto_collect ?_))
  rw [Around.under_plainId F.plain_proto_collect _]
  show wpAny _ A.in1 (newList [] >>= fun l => again (.builtin "list.__iadd__" ⟨[l, .ref it], []⟩)) _ _ s
  refine wpAny_bind (wpAny_newObj_type (wpAny_pure ⟨plainId_quiet F.plain_list_iadd _, codeAny_builtin F.entry_list_iadd ?_⟩))
  rw [Around.under_plainId F.plain_list_iadd _]
  have hS : (s.heap.push { cls := .type "list", data := .seq ([] : List Value).toArray }).get? s.heap.objs.size = some { cls := .type "list", data := .seq ([] : List Value).toArray } := Heap.get?_push_size _ rfl
  have hi1 : (s.heap.push { cls := .type "list", data := .seq ([] : List Value).toArray }).IsRevIter it l ((items.size : Int) - 1) := hi.at fun o e => Heap.get?_push_of_some _ e
  have hl1 : (s.heap.push { cls := .type "list", data := .seq ([] : List Value).toArray }).IsList l items := hl.at fun o e => Heap.get?_push_of_some _ e
  show wpAny _ A.in1 (Builtin.List.listExtendWith (.ref s.heap.objs.size) (.ref it) (.ref s.heap.objs.size)) _ _ _
  unfold Builtin.List.listExtendWith
  have hT1 : Shared.TypeIs { s with heap := s.heap.push { cls := .type "list", data := .seq ([] : List Value).toArray } } (.ref it) "list_reverseiterator" := Heap.IsRevIter.typeIs (s := { s with heap := s.heap.push { cls := .type "list", data := .seq ([] : List Value).toArray } }) hi1
  refine wpAny_bind (wpAny_typeOf hT1 ?_)
  have same : Builtin.List.listSameRef (.ref s.heap.objs.size) (.ref it) = false := by simp [Builtin.List.listSameRef, nS]
  rw [if_neg (by rw [same]; decide)]
  refine wpAny_bind (wpAny_pyIter_revIter hi1 (wpAny_bind (wpAny_holding ?_)))
  unfold Builtin.List.listLengthHint
  refine wpAny_bind (wpAny_specialOf hT1 lri_nolen (show wpAny _ A.in1 (specialOf (Value.ref it) (Str.ofString "__length_hint__") >>= _) _ _ _ from wpAny_bind (wpAny_specialOf hT1 lri_hint ?_)))
  generalize hid : ("list_reverseiterator.__length_hint__" : String) = id0
  wp_delta
  rw [show splitId id0 = some ("list_reverseiterator", "__length_hint__") from by subst hid; decide +kernel]
  subst hid
  refine wpAny_bind (wpAny_isInstance (b := true) hT1 (by rw [isSubtype_type]; kernel_rfl) (wpAny_pure ?_))
  rw [if_neg (by decide)]
  refine wpAny_pure ⟨plainId_quiet F.plain_extend_loop _, codeAny_extend_loopS W hn s.heap.objs.size (by simp [nS, nSl]) _ items.size 0 _ #[] _ rfl (Nat.zero_le _) ⟨Nat.zero_le _, by simpa using hi1, hl1⟩ hS (ItemsOf.nil _) fun s' acc c' hm hS' ha => ?_⟩
  show wpAny _ A (load s.heap.objs.size >>= _) _ _ s'
  refine wpAny_bind (wpAny_load hS' ?_)
  have e' := Moved.eq_with hm
  have lt := Heap.lt_size hS'
  have hmh := hm.heap
  generalize s'.heap = h' at e' lt hmh
  generalize s'.toks = tk' at e'
  subst e'
  refine wpAny_pure (hQ h' tk' acc (Nat.le_of_lt lt) (fun b o hb e => hmh b o (fun z => ?_) (Heap.get?_push_of_some _ e)) ha)
  rcases List.mem_cons.mp z with z | z
  · rw [z] at e
    exact absurd (Heap.lt_size e) (Nat.lt_irrefl _)
  · exact hb (List.mem_singleton.mp z)
theorem lr_new {it l : Addr} {items : Array Value} {Q₁ : Value -> Shared -> Prop} (hh : A.handled = none) (hi : s.heap.IsRevIter it l ((items.size : Int) - 1)) (hl : s.heap.IsList l items) (nl : l ≠ it) (hn : items.size <= sizeLine)
    (h : ∀ (h' : Heap) tk acc, s.heap.objs.size <= h'.objs.size -> (∀ b o, b ≠ it -> s.heap.get? b = some o -> h'.get? b = some o) -> ItemsOf (fun i v => items[items.size - 1 - i]? = some v) acc items.size -> Q₁ (.ref h'.objs.size) { s with heap := h'.push { cls := .type "tuple", data := .seq acc }, toks := tk }) :
    codeAny (model prog w) A (.call (.builtin "tuple.__new__") ⟨[.type "tuple", .ref it], []⟩) (wants Q₁ E) s := by
  refine codeAny_of_tree ?_
  show wpAny _ A.in1 (do checkBuiltinCall "tuple.__new__" ⟨[.type "tuple", .ref it], []⟩; again (.builtin "tuple.__new__" ⟨[.type "tuple", .ref it], []⟩)) _ _ s
  refine wpAny_bind (wpAny_of_eq (F.newCall_tuple_1 _) (wpAny_pure ⟨plainId_quiet F.plain_tuple_new _, codeAny_builtin F.entry_tuple_new ?_⟩))
  rw [Around.under_plainId F.plain_tuple_new _]
  have hsub := sub_tuple_self
  have hinit := init_tuple_lookup
  have hmh := madeHere_tuple
  have hTI := hi.typeIs
  wp_walk using wpAny_typeOf hTI, lr_collect (A := A.in1) hh hi hl nl hn
  intro h' tk acc hz hm hacc
  show wpAny _ _ (Builtin.Tuple.tupleExact acc.toList.toArray >>= fun v => ret v) _ _ _
  unfold Builtin.Tuple.tupleExact
  refine wpAny_bind (wpAny_newObj_type ?_ (by show acc.toList.toArray.size <= sizeLine; simp only [Array.toArray_toList]; rw [hacc.1]; exact hn))
  refine wpAny_pure ?_
  have e : acc.toList.toArray = acc := by simp
  rw [e]
  exact h h' tk acc hz hm hacc
theorem lr_call {it l : Addr} {items : Array Value} {Q : Value -> Shared -> Prop} (hh : A.handled = none) (hi : s.heap.IsRevIter it l ((items.size : Int) - 1)) (hl : s.heap.IsList l items) (nl : l ≠ it) (hn : items.size <= sizeLine)
    (h : ∀ (h' : Heap) tk acc, s.heap.objs.size <= h'.objs.size -> (∀ b o, b ≠ it -> s.heap.get? b = some o -> h'.get? b = some o) -> ItemsOf (fun i v => items[items.size - 1 - i]? = some v) acc items.size -> Q (.ref h'.objs.size) { s with heap := h'.push { cls := .type "tuple", data := .seq acc }, toks := tk }) :
    wpAny (model prog w) A (call (.type "tuple") [.ref it]) Q E s := by
  refine callType_codes (Q₁ := fun obj s₁ => s₁.TypeIs obj "tuple" /\ Q obj s₁) F.called_tuple (F.typeCall_tuple_1 _) F.entry_object_init
    (lr_new (A := A.in1) hh hi hl nl hn fun h' tk acc hz hm hacc => ⟨⟨_, Heap.get?_push_size _ rfl, rfl⟩, h h' tk acc hz hm hacc⟩) fun obj s₁ h₁ => ?_
  exact ⟨h₁.1, F.args_object_init_2 obj _, object_init_meets F.called_tuple.init.lookup F.called_tuple.made (by decide) prog w A.in1 _ s₁ ⟨h₁.1, rfl, h₁.2⟩⟩
end
section
variable {X : Cx} {e : Expr} {te : TE} {p1 p2 q1 q2 : Pos}
def tRevLT (K : PySem.W.Frag) (te : TE) : TE := fun σ H Q => te σ H fun x H1 => ∃ l ys, x = .ref l /\ SqL K H1 l ys /\ ∀ r, H1 r = none -> Q (.ref r) (upd H1 r (.tup ys.reverse))
theorem pe_tupRevL (hc : X.calm = true) (g1 : Gl X "tuple") (m1 : X.mg "tuple" = none) (g2 : Gl X "reversed") (m2 : X.mg "reversed" = none) (he : PE X e te)
    (hs2 : starEach [e] X.env = [(false, eval e X.env)] := by rfl) (hs1 : starEach [.Call (.Name "reversed" p2) [e] [] q2] X.env = [(false, eval (.Call (.Name "reversed" p2) [e] [] q2) X.env)] := by rfl) :
    PE X (.Call (.Name "tuple" p1) [.Call (.Name "reversed" p2) [e] [] q2] [] q1) (tRevLT X.K te) := by
  intro pins s σ H Q I h
  refine Call_ (ld_blt I g1 m1 PyProof.Rows.boot_tuple (PyProof.Rows.callWith_type1 ?_ hs1 rfl))
  rw [hs1]
  show wpAny _ _ (spliced ((false, eval (.Call (.Name "reversed" p2) [e] [] q2) X.env) :: backTo q1 [])) _ _ s
  refine Calls.spliced_cons (Call_ (ld_blt I g2 m2 boot_reversed (PyProof.Rows.callWith_type1 ?_ hs2 rfl)))
  rw [hs2]
  show wpAny _ _ (spliced ((false, eval e X.env) :: backTo q2 [])) _ _ s
  refine Calls.spliced_cons (thn (he pins s σ H _ I h) fun u s1 ⟨x, H1, I1, r1, l, ys, ex, hq, k⟩ => ?_)
  subst ex
  cases r1
  refine Calls.spliced_nil ?_
  obtain ⟨vs, rv, pl, hz⟩ := I1.list hq
  have hl := pl.isList
  have hlen := rv.length
  have ll : l < s1.heap.objs.size := let ⟨_, e, _⟩ := hl; Heap.lt_size e
  have nl : l ≠ s1.heap.objs.size := Nat.ne_of_lt ll
  have hzs : vs.toArray.size <= sizeLine := by rw [List.size_toArray]; omega
  refine call_reversed_list hl (Calls.spliced_nil ?_)
  refine lr_call (items := vs.toArray) (I1.ok.hd hc) ⟨_, Heap.get?_push_size _ rfl, rfl, rfl⟩ (hl.at fun o e => Heap.get?_push_of_some _ e) nl hzs (fun h' tk acc hzz hk ha => ?_)
  have e := rev_items ha
  have sz : (s1.heap.push (revObj l ((vs.toArray.size : Int) - 1))).objs.size = s1.heap.objs.size + 1 := Heap.size_push ..
  rw [sz] at hzz
  have fr : H1 h'.objs.size = none := I1.hok.fresh (by omega)
  refine ⟨.ref h'.objs.size, _, I1.laid (t' := tk) (fun b u eb => Heap.get?_push_of_some _ (hk b u (Nat.ne_of_lt (Heap.lt_size eb)) (Heap.get?_push_of_some _ eb))) (by omega) (show ObjOk X.prog X.w _ _ _ (.tup ys.reverse) from ⟨by rw [List.length_reverse]; omega, vs.reverse, rv.reverse, ?_⟩), rfl, k _ fr⟩
  rw [<- e]
  have e2 : acc.toList.toArray = acc := by simp
  rw [e2]
  exact IsTup.new _ _
theorem qe_tupRevL (hc : X.calm = true) (g1 : Gl X "tuple") (m1 : X.mg "tuple" = none) (g2 : Gl X "reversed") (m2 : X.mg "reversed" = none) (he : QE X e te)
    (hs2 : starEach [e] X.env = [(false, eval e X.env)] := by rfl) (hs1 : starEach [.Call (.Name "reversed" p2) [e] [] q2] X.env = [(false, eval (.Call (.Name "reversed" p2) [e] [] q2) X.env)] := by rfl) :
    QE X (.Call (.Name "tuple" p1) [.Call (.Name "reversed" p2) [e] [] q2] [] q1) (tRevLT X.K te) := ⟨pe_tupRevL hc g1 m1 g2 m2 he.h hs2 hs1⟩
end
end L2
namespace K07
open PySem L2 NS TR
open TM hiding Endd Ms Run Step pcs run_all
theorem n12 : ¬ (("rows" : Str) = "open_words") := by decide +kernel
theorem n13 : ¬ (("rows" : Str) = "inner_counts") := by decide +kernel
theorem n14 : ¬ (("rows" : Str) = "closed") := by decide +kernel
theorem n23 : ¬ (("open_words" : Str) = "inner_counts") := by decide +kernel
theorem n24 : ¬ (("open_words" : Str) = "closed") := by decide +kernel
theorem n34 : ¬ (("inner_counts" : Str) = "closed") := by decide +kernel
def flds (r o i c : V) : List (Str × V) := putF "closed" c (putF "inner_counts" i (putF "open_words" o (putF "rows" r [])))
theorem flds_eq (r o i c : V) : flds r o i c = ([("rows", r), ("open_words", o), ("inner_counts", i), ("closed", c)] : List (Str × V)) := by
  unfold flds
  simp only [putF, if_neg n12, if_neg n13, if_neg n14, if_neg n23, if_neg n24, if_neg n34]
theorem fl_r (r o i c : V) : (flds r o i c).lookup ("rows" : Str) = some r := by
  unfold flds
  rw [lookup_putF, if_neg n14, lookup_putF, if_neg n13, lookup_putF, if_neg n12, lookup_putF, if_pos rfl]
theorem fl_o (r o i c : V) : (flds r o i c).lookup ("open_words" : Str) = some o := by
  unfold flds
  rw [lookup_putF, if_neg n24, lookup_putF, if_neg n23, lookup_putF, if_pos rfl]
theorem fl_i (r o i c : V) : (flds r o i c).lookup ("inner_counts" : Str) = some i := by
  unfold flds
  rw [lookup_putF, if_neg n34, lookup_putF, if_pos rfl]
theorem fl_c (r o i c : V) : (flds r o i c).lookup ("closed" : Str) = some c := by
  unfold flds
  rw [lookup_putF, if_pos rfl]
theorem fl_no (r o i c : V) {m : Str} (h1 : ¬ m = "closed") (h2 : ¬ m = "inner_counts") (h3 : ¬ m = "open_words") (h4 : ¬ m = "rows") : (flds r o i c).lookup m = none := by
  unfold flds
  rw [lookup_putF, if_neg h1, lookup_putF, if_neg h2, lookup_putF, if_neg h3, lookup_putF, if_neg h4]
  rfl
theorem put_c (r o i c y : V) : putF "closed" y (flds r o i c) = flds r o i y := by
  rw [flds_eq, flds_eq]
  simp only [putF, if_neg n14, if_neg n24, if_neg n34, if_true]
theorem fl_few (r o i c : V) : (flds r o i c).length < 1000 := by
  rw [flds_eq]
  show 4 < 1000
  decide
theorem lp {f : Str} {v : V} {fs : List (Str × V)} {k : Nat} (h : fs.length <= k) : (putF f v fs).length <= k + 1 := Nat.le_trans (length_putF f v fs) (Nat.succ_le_succ h)
theorem sameT_ins {H : Hp} {p C dx : Addr} {fs : List (Str × V)} {o : HO} (h : H p = some (.ins C dx fs)) : SameT H (upd H p o) := fun b xs q => by
  rw [upd_ne (ne_of q h (fun z => nomatch z))]
  exact q
def RwIs (H : Hp) (x : Row) (v : V) : Prop := ∃ a, v = .ref a /\ H a = some (.tup [.str x.1, .int x.2.1, .int x.2.2])
theorem RwIs.same {H H' : Hp} (e : SameT H H') {x : Row} {v : V} (h : RwIs H x v) : RwIs H' x v := by
  obtain ⟨a, x, y⟩ := h
  exact ⟨a, x, e _ _ y⟩
abbrev opW (op : List (Str × Nat)) : List V := op.map fun x => V.str x.1
abbrev opC (op : List (Str × Nat)) : List V := op.map fun x => V.int (x.2 : Int)
structure RdAt (C : Addr) (B H : Hp) (p : Addr) (st : Ms) : Prop where
  sm : Same B H
  np : B p = none
  ex : ∃ dx lr lo lc us, H p = some (.ins C dx (flds (.ref lr) (.ref lo) (.ref lc) (.bl st.cl))) /\ B lr = none /\ B lo = none /\ B lc = none /\ lr ≠ lo /\ lr ≠ lc /\ lo ≠ lc /\ H lr = some (.lst us) /\ L2R (RwIs H) st.rs us /\ H lo = some (.lst (opW st.op)) /\ H lc = some (.lst (opC st.op))
def spInit (C : Addr) : Sp := fun vs H Q _ => ∃ (B : Hp) (p dx : Addr), vs = [.ref p] /\ H p = some (.ins C dx []) /\ Same B H /\ B p = none /\ ∀ H', RdAt C B H' p ⟨[], [], false⟩ -> Q .non H'
def spAdd (C : Addr) : Sp := fun vs H Q _ => ∃ (B : Hp) (p : Addr) (z : Str) (c : Nat) (st : Ms), vs = [.ref p, .str z, .int (c : Int)] /\ st.rs.length <= 90000 /\ RdAt C B H p st /\ ∀ H', RdAt C B H' p ⟨st.rs ++ [(z, c, st.op.length + 1)], st.op, st.cl⟩ -> Q .non H'
def TxOk (z : Str) : Prop := z.length <= 20000 /\ ∀ c ∈ z.cps.toList, c < 128
theorem shown_str {d : Str} (h : TxOk d) : (PyData.str d).shown.length <= 300000 := by
  have := PyData.shown_le_bulk 8 (by decide) (.str d) (by
    simp only [PyData.leavesShort, List.all_eq_true, decide_eq_true_eq]
    intro c hc
    have := h.2 c hc
    have e : (16 : Nat) ^ 8 = 4294967296 := by decide
    omega)
  have e : PyData.bulk (.str d) = d.cps.size := by simp only [PyData.bulk]
  have h3 : d.cps.size <= 20000 := h.1
  rw [e] at this
  omega
def spBegin (C N : Addr) : Sp := fun vs H Q E => ∃ (B : Hp) (p : Addr) (z : Str) (rs : List Row) (op : List (Str × Nat)) (cl : Bool), vs = [.ref p, .str z] /\ op.length <= 90000 /\ RdAt C B H p ⟨rs, op, cl⟩ /\ (cl = false -> ∀ H', RdAt C B H' p ⟨rs, op ++ [(z, 0)], false⟩ -> Q .non H') /\ (cl = true -> E (.ref N) none H)
def spEnd (C N : Addr) : Sp := fun vs H Q E => ∃ (B : Hp) (p : Addr) (z : Str) (st : Ms), vs = [.ref p, .str z] /\ TxOk z /\ st.rs.length <= 90000 /\ RdAt C B H p st /\ (∀ rs, Endd st z rs -> ∀ H', RdAt C B H' p ⟨rs, st.op, st.cl⟩ -> Q .non H') /\ ((¬ ∃ rs, Endd st z rs) -> E (.ref N) none H)
def spCount (C N : Addr) : Sp := fun vs H Q E => ∃ (B : Hp) (p : Addr) (rs : List Row) (op : List (Str × Nat)) (cl : Bool), vs = [.ref p] /\ RdAt C B H p ⟨rs, op, cl⟩ /\ (∀ o z c, op = o ++ [(z, c)] -> ∀ H', RdAt C B H' p ⟨rs, o ++ [(z, c + 1)], false⟩ -> Q .non H') /\ (op = [] -> E (.ref N) none H)
def spClose (C : Addr) : Sp := fun vs H Q _ => ∃ (B : Hp) (p : Addr) (z : Str) (c : Nat) (rs : List Row) (op : List (Str × Nat)) (cl : Bool), vs = [.ref p] /\ rs.length <= 90000 /\ RdAt C B H p ⟨rs, op ++ [(z, c)], cl⟩ /\ ∀ H', RdAt C B H' p ⟨rs ++ [(z, c, op.length + 1)], op, true⟩ -> Q .non H'
def spAll (C N : Addr) : Sp := fun vs H Q E => ∃ (B : Hp) (p : Addr) (rs : List Row) (op : List (Str × Nat)) (cl : Bool), vs = [.ref p] /\ RdAt C B H p ⟨rs, op, cl⟩ /\ (op = [] -> ∀ lr us, B lr = none -> H lr = some (.lst us) -> L2R (RwIs H) rs us -> Q (.ref lr) H) /\ (op ≠ [] -> E (.ref N) none H)
theorem snoc_or {α : Type} (l : List α) : l = [] \/ ∃ a x, l = a ++ [x] := by
  cases h : l.reverse with
  | nil => exact .inl (List.reverse_eq_nil_iff.mp h)
  | cons x r => exact .inr ⟨r.reverse, x, by rw [<- List.reverse_reverse l, h, List.reverse_cons]⟩
theorem mAdd (r o i c : V) : (flds r o i c).lookup ("add_row" : Str) = none := fl_no _ _ _ _ (by decide +kernel) (by decide +kernel) (by decide +kernel) (by decide +kernel)
theorem opW_snoc (op : List (Str × Nat)) (z : Str) (c : Nat) : opW (op ++ [(z, c)]) = opW op ++ [.str z] := by simp [opW]
theorem opC_snoc (op : List (Str × Nat)) (z : Str) (c : Nat) : opC (op ++ [(z, c)]) = opC op ++ [.int c] := by simp [opC]
theorem atI_last' (xs : List V) (y : V) : atI (xs ++ [y]) (-1) = some y := by
  have e : ixN (xs ++ [y]).length (-1) = some xs.length := by
    unfold ixN
    rw [List.length_append, List.length_singleton, if_neg (by decide), if_pos (by omega)]
    congr 1
    omega
  unfold atI
  rw [e]
  show (xs ++ [y])[xs.length]? = _
  rw [List.getElem?_append_right (Nat.le_refl _), Nat.sub_self]
  rfl
theorem ixN_last (xs : List V) (y : V) : ixN (xs ++ [y]).length (-1) = some xs.length := by
  unfold ixN
  rw [List.length_append, List.length_singleton, if_neg (by decide), if_pos (by omega)]
  congr 1
  omega
theorem set_last (xs : List V) (y z : V) : (xs ++ [y]).set xs.length z = xs ++ [z] := by
  simp
section
variable {P : Program} {w : World} {K : PySem.W.Frag} {mg : Str -> Option Value} {base : Heap} {T : Adr}
theorem ok_init (X : Tx K w mg T) : FnOk P w K mg base CX0 1 T.qinit T.d_qinit ["self"] (spInit T.k_NestReader) := by
  refine X.F_qinit.okQ sc_qinit (fun vs H Q E h => ?_) (fun cdv A outer s H vs Q E hr h => ?_)
  · obtain ⟨_, _, _, rfl, _⟩ := h
    rfl
  obtain ⟨B, p, dx, rfl, hp, sm, np, q⟩ := h
  refine ⟨_, (qss_cons (qs_fld (qv 0) (qe_lst qa_nil) rfl) (qss_cons (qs_fld (qv 0) (qe_lst qa_nil) rfl) (qss_cons (qs_fld (qv 0) (qe_lst qa_nil) rfl) (qss_one (qs_fld (qv 0) qe_bl rfl))))), ?_⟩
  refine ⟨(by show 0 <= sizeLine; decide), fun lr hlr => ?_⟩
  have nlr : lr ≠ p := ne_of_none' hp hlr
  refine ⟨_, rfl, p, _, dx, _, rfl, (by rw [upd_ne nlr.symm]; exact hp), X.cl_NestReader, X.n_rows, (by show 0 < 1000; decide), ?_⟩
  refine ⟨(by show 0 <= sizeLine; decide), fun lo hlo => ?_⟩
  have nlo : lo ≠ p := ne_of_none' upd_same hlo
  have nro : lr ≠ lo := fun z => by
    rw [<- z, upd_ne nlr, upd_same] at hlo
    cases hlo
  refine ⟨_, rfl, p, _, dx, _, rfl, (by rw [upd_ne nlo.symm]; exact upd_same), X.cl_NestReader, X.n_open_words, Nat.lt_of_le_of_lt (lp (fs := []) (k := 0) (Nat.le_refl 0)) (by decide), ?_⟩
  refine ⟨(by show 0 <= sizeLine; decide), fun lc hlc => ?_⟩
  have nlc : lc ≠ p := ne_of_none' upd_same hlc
  have noc : lo ≠ lc := fun z => by
    rw [<- z, upd_ne nlo, upd_same] at hlc
    cases hlc
  have nrc : lr ≠ lc := fun z => by
    rw [<- z, upd_ne nlr, upd_ne nro, upd_ne nlr, upd_same] at hlc
    cases hlc
  refine ⟨_, rfl, p, _, dx, _, rfl, (by rw [upd_ne nlc.symm]; exact upd_same), X.cl_NestReader, X.n_inner_counts, Nat.lt_of_le_of_lt (lp (lp (fs := []) (k := 0) (Nat.le_refl 0))) (by decide), ?_⟩
  refine ⟨_, rfl, p, _, dx, _, rfl, upd_same, X.cl_NestReader, X.n_closed, Nat.lt_of_le_of_lt (lp (lp (lp (fs := []) (k := 0) (Nat.le_refl 0)))) (by decide), ?_⟩
  have B1 : B lr = none := sm.free hlr
  have S1 := same_upd (o := .ins T.k_NestReader dx (putF "rows" (.ref lr) [])) np (sm.trans (same_new hlr (.lst [])))
  have B2 : B lo = none := S1.free hlo
  have S2 := same_upd (o := .ins T.k_NestReader dx (putF "open_words" (.ref lo) (putF "rows" (.ref lr) []))) np (S1.trans (same_new hlo (.lst [])))
  have B3 : B lc = none := S2.free hlc
  have S3 := same_upd (o := .ins T.k_NestReader dx (putF "inner_counts" (.ref lc) (putF "open_words" (.ref lo) (putF "rows" (.ref lr) [])))) np (S2.trans (same_new hlc (.lst [])))
  refine q _ ⟨same_upd np S3, np, dx, lr, lo, lc, [], upd_same, B1, B2, B3, nro, nrc, noc, ?_, .nil, ?_, ?_⟩
  · rw [upd_ne nlr, upd_ne nlr, upd_ne nrc, upd_ne nlr, upd_ne nro, upd_ne nlr, upd_same]
  · rw [upd_ne nlo, upd_ne nlo, upd_ne noc, upd_ne nlo, upd_same]
    rfl
  · rw [upd_ne nlc, upd_ne nlc, upd_same]
    rfl
theorem ok_add (X : Tx K w mg T) : FnOk P w K mg base CX0 1 T.qaddrow T.d_qaddrow ["self", "word", "count"] (spAdd T.k_NestReader) := by
  refine X.F_qaddrow.okQ sc_qaddrow (fun vs H Q E h => ?_) (fun cdv A outer s H vs Q E hr h => ?_)
  · obtain ⟨_, _, _, _, _, rfl, _⟩ := h
    rfl
  obtain ⟨B, p, z, c, st, rfl, hw, R, q⟩ := h
  refine ⟨_, (qss_one (qs_expr (qe_bm PySem.F.plainAttrs_list PySem.F.slot_list_append PySem.F.type_list_append mt_append (qe_fld (qv 0) rfl) (qaT (qe_tup (qaN (qv 1) (qaN (qv 2) (qaB (qe_op op_add (qe_callB call_len_seq rfl X.z_len PySem.boot_len (qaA (qe_fld (qv 0) rfl) qa_nil)) qe_int) qa_nil)))) qa_nil)))), ?_⟩
  obtain ⟨sm, np, dx, lr, lo, lc, us, hp, b1, b2, b3, nro, nrc, noc, hlr, hrs, hlo, hlc⟩ := R
  have hul := hrs.len
  refine ⟨_, rfl, p, _, dx, _, _, rfl, hp, X.cl_NestReader, X.n_rows, fl_r _ _ _ _, .inl ⟨rfl, _, SqL.of hlr⟩, _, rfl, _, rfl, _, rfl, p, _, dx, _, _, rfl, hp, X.cl_NestReader, X.n_open_words, fl_o _ _ _ _, lo, _, rfl, .inl (SqL.of hlo), _, _, rfl, rfl, (by show 3 <= sizeLine; decide), fun t ht => ?_⟩
  have s1 := same_new ht (.tup [.str z, .int (c : Int), .int (((opW st.op).length : Int) + 1)])
  refine ⟨lr, us, _, rfl, rfl, s1 _ _ hlr, fitsL (by omega), ?_⟩
  have ntr : t ≠ lr := ne_of_none' hlr ht
  have npr : p ≠ lr := ne_of hp hlr (fun z => nomatch z)
  have hlr1 := s1 _ _ hlr
  refine q _ ⟨same_upd b1 (sm.trans s1), np, dx, lr, lo, lc, us ++ [.ref t], by rw [upd_ne npr]; exact s1 _ _ hp, b1, b2, b3, nro, nrc, noc, upd_same, ?_, by rw [upd_ne nro.symm]; exact s1 _ _ hlo, by rw [upd_ne nrc.symm]; exact s1 _ _ hlc⟩
  refine (hrs.imp fun _ _ => RwIs.same ((sameT s1).trans (sameT_lst hlr1))).snoc ⟨t, rfl, ?_⟩
  rw [upd_ne ntr, upd_same, List.length_map]
  rfl
theorem ok_begin (X : Tx K w mg T) : FnOk P w K mg base (CXe P w) 1 T.qbegin T.d_qbegin ["self", "word"] (spBegin T.k_NestReader T.k_NoText) := by
  refine X.F_qbegin.okE sc_qbegin (fun vs H Q E h => ?_) (fun cdv A outer s H vs Q E hr h => ?_)
  · obtain ⟨_, _, _, _, _, _, rfl, _⟩ := h
    rfl
  obtain ⟨B, p, z, rs, op, cl, rfl, hw, R, q, qe⟩ := h
  refine ⟨_, (qss_cons (qs_if (qt_val (qe_fld (qv 0) rfl)) (qss_one (qs_raise rfl rfl X.m_NoText X.e_NoText (qaC qe_str qa_nil) xe_raise)) qss_nil) (qss_cons (qs_expr (qe_bm PySem.F.plainAttrs_list PySem.F.slot_list_append PySem.F.type_list_append mt_append (qe_fld (qv 0) rfl) (qaN (qv 1) qa_nil))) (qss_one (qs_expr (qe_bm PySem.F.plainAttrs_list PySem.F.slot_list_append PySem.F.type_list_append mt_append (qe_fld (qv 0) rfl) (qaC qe_int qa_nil)))))), ?_⟩
  obtain ⟨sm, np, dx, lr, lo, lc, us, hp, b1, b2, b3, nro, nrc, noc, hlr, hrs, hlo, hlc⟩ := R
  refine ⟨_, rfl, p, _, dx, _, _, rfl, hp, X.cl_NestReader, X.n_closed, fl_c _ _ _ _, _, rfl, ?_⟩
  cases cl with
  | true => exact iteT ⟨(by show 1 <= 10; decide), qe rfl⟩
  | false =>
  refine iteF ?_
  have q := q rfl
  have npo : p ≠ lo := ne_of hp hlo (fun z => nomatch z)
  have npc : p ≠ lc := ne_of hp hlc (fun z => nomatch z)
  have lw : (opW op).length <= 90000 := by rw [List.length_map]; exact hw
  have lk : (opC op).length <= 90000 := by rw [List.length_map]; exact hw
  refine ⟨_, rfl, p, _, dx, _, _, rfl, hp, X.cl_NestReader, X.n_open_words, fl_o _ _ _ _, .inl ⟨rfl, _, SqL.of hlo⟩, _, rfl, lo, _, _, rfl, rfl, hlo, fitsL (by show (opW op).length <= 100000; omega), ?_⟩
  have hp1 : upd H lo (.lst (opW op ++ [.str z])) p = some (.ins T.k_NestReader dx (flds (.ref lr) (.ref lo) (.ref lc) (.bl false))) := by rw [upd_ne npo]; exact hp
  have hlc1 : upd H lo (.lst (opW op ++ [.str z])) lc = some (.lst (opC op)) := by rw [upd_ne noc.symm]; exact hlc
  refine ⟨_, rfl, p, _, dx, _, _, rfl, hp1, X.cl_NestReader, X.n_inner_counts, fl_i _ _ _ _, .inl ⟨rfl, _, SqL.of hlc1⟩, lc, _, _, rfl, rfl, hlc1, fitsL (by show (opC op).length <= 100000; omega), ?_⟩
  refine q _ ⟨same_upd b3 (same_upd b2 sm), np, dx, lr, lo, lc, us, by rw [upd_ne npc]; exact hp1, b1, b2, b3, nro, nrc, noc, by rw [upd_ne nrc, upd_ne nro]; exact hlr, hrs.imp fun _ _ => RwIs.same ((sameT_lst hlo).trans (sameT_lst hlc1)), by rw [upd_ne noc, upd_same, opW_snoc], by rw [upd_same, opC_snoc]; rfl⟩
theorem ok_end (X : Tx K w mg T) : FnOk P w K mg base (CXe P w) 2 T.qendword T.d_qendword ["self", "word"] (spEnd T.k_NestReader T.k_NoText) := by
  have G_qaddrow := ok_add (P := P) (w := w) (base := base) X
  refine X.F_qendword.okE sc_qendword (fun vs H Q E h => ?_) (fun cdv A outer s H vs Q E hr h => ?_)
  · obtain ⟨_, _, _, _, rfl, _⟩ := h
    rfl
  obtain ⟨B, p, z, ⟨rs, op, cl⟩, rfl, hz, hw, R, q, qe⟩ := h
  refine ⟨_, (qss_one (qs_if (qt_not (qt_val (qe_fld (qv 0) rfl))) (qss_one (qs_expr (qe_meth (qv 0) X.cl_NestReader X.h_qaddrow G_qaddrow hr X.b_qaddrow .nil pass0 (qaN (qv 1) (qaC qe_int qa_nil))))) (qss_one (qs_if (qt_cmpR op_ne (qv 1) qe_str (nomark _)) (qss_one (qs_raise rfl rfl X.m_NoText X.e_NoText (qaJ (qe_join (qj_cons (qe_rep hr (qv 1)) (qj_cons qe_str qj_nil))) qa_nil) xe_raise)) qss_nil)))), ?_⟩
  obtain ⟨dx, lr, lo, lc, us, hp, _⟩ := R.ex
  cases cl with
  | false =>
    refine ⟨_, rfl, p, _, dx, _, _, rfl, hp, X.cl_NestReader, X.n_closed, fl_c _ _ _ _, _, rfl, iteT ?_⟩
    exact ⟨_, rfl, p, dx, _, rfl, hp, mAdd _ _ _ _, _, rfl, B, p, z, 0, _, rfl, hw, R, fun H' R' => q _ .word H' R'⟩
  | true =>
    refine ⟨_, rfl, p, _, dx, _, _, rfl, hp, X.cl_NestReader, X.n_closed, fl_c _ _ _ _, _, rfl, iteF ?_⟩
    refine ⟨_, rfl, rfl, _, rfl, iteNe (fun hn => ?_) (fun he => ?_)⟩
    · have ls := shown_str hz
      have e0 : Str.empty.length = 0 := rfl
      have l1 : (Str.ofString " stands behind a closed bracket").length = 31 := by decide
      have hsz : sizeLine = 16777216 := by decide
      refine ⟨_, rfl, .str z, .str z, by simp only [PyData.showable], by simp only [PyData.hasDict], by simp only [PyData.depth]; decide, by omega, _, rfl, by rw [app_len, e0]; omega, _, rfl, by rw [app_len, app_len, e0, l1]; omega, (by show 1 <= 10; decide), qe ?_⟩
      rintro ⟨rs', h⟩
      cases h with
      | again => exact hn (by decide)
    · have ez : z = mkS [] := by
        rw [V.str.inj he]
        decide
      subst ez
      exact q _ .again H R
theorem ok_count (X : Tx K w mg T) : FnOk P w K mg base (CXe P w) 1 T.qcountin T.d_qcountin ["self"] (spCount T.k_NestReader T.k_NoText) := by
  refine X.F_qcountin.okE sc_qcountin (fun vs H Q E h => ?_) (fun cdv A outer s H vs Q E hr h => ?_)
  · obtain ⟨_, _, _, _, _, rfl, _⟩ := h
    rfl
  obtain ⟨B, p, rs, opp, cl, rfl, R, q, qe⟩ := h
  refine ⟨_, (qss_cons (qs_if (qt_not (qt_truth (qe_fld (qv 0) rfl) (fun _ => rfl))) (qss_one (qs_raise rfl rfl X.m_NoText X.e_NoText (qaC qe_str qa_nil) xe_raise)) qss_nil) (qss_cons (qs_augS (qe_fld (qv 0) rfl) (qe_un un_neg qe_int) get_list qe_int ip_add set_list) (qss_one (qs_fld (qv 0) qe_bl rfl)))), ?_⟩
  rcases snoc_or opp with rfl | ⟨op, ⟨z, c⟩, rfl⟩
  · obtain ⟨sm, np, dx, lr, lo, lc, us, hp, b1, b2, b3, nro, nrc, noc, hlr, hrs, hlo, hlc⟩ := R
    exact ⟨_, rfl, p, _, dx, _, _, rfl, hp, X.cl_NestReader, X.n_open_words, fl_o _ _ _ _, false, .inl ⟨_, SqL.of hlo, rfl⟩, iteT ⟨(by show 1 <= 10; decide), qe rfl⟩⟩
  have q := q op z c rfl
  obtain ⟨sm, np, dx, lr, lo, lc, us, hp, b1, b2, b3, nro, nrc, noc, hlr, hrs, hlo, hlc⟩ := R
  have hlc' : H lc = some (.lst (opC op ++ [.int (c : Int)])) := by rw [hlc]; exact congrArg (fun x => some (HO.lst x)) (opC_snoc op z c)
  have npc : p ≠ lc := ne_of hp hlc (fun z => nomatch z)
  refine ⟨_, rfl, p, _, dx, _, _, rfl, hp, X.cl_NestReader, X.n_open_words, fl_o _ _ _ _, true, .inl ⟨_, SqL.of hlo, by simp [opW]⟩, iteF ?_⟩
  refine ⟨_, rfl, p, _, dx, _, _, rfl, hp, X.cl_NestReader, X.n_inner_counts, fl_i _ _ _ _, _, rfl, lc, _, -1, _, rfl, rfl, (by decide), SqL.of hlc', atI_last' _ _, _, _, rfl, rfl, lc, _, -1, _, rfl, rfl, hlc', ixN_last _ _, ?_⟩
  rw [set_last]
  have hp1 : upd H lc (.lst (opC op ++ [.int ((c : Int) + 1)])) p = some (.ins T.k_NestReader dx (flds (.ref lr) (.ref lo) (.ref lc) (.bl cl))) := by rw [upd_ne npc]; exact hp
  refine ⟨_, rfl, p, _, dx, _, rfl, hp1, X.cl_NestReader, X.n_closed, fl_few _ _ _ _, ?_⟩
  rw [put_c]
  have nrp : lr ≠ p := ne_of hlr hp (fun z => nomatch z)
  have nop : lo ≠ p := ne_of hlo hp (fun z => nomatch z)
  refine q _ ⟨same_upd np (same_upd b3 sm), np, dx, lr, lo, lc, us, upd_same, b1, b2, b3, nro, nrc, noc, by rw [upd_ne nrp, upd_ne nrc]; exact hlr, hrs.imp fun _ _ => RwIs.same ((sameT_lst hlc).trans (sameT_ins hp1)), ?_, ?_⟩
  · rw [upd_ne nop, upd_ne noc, hlo, opW_snoc, opW_snoc]
  · rw [upd_ne npc.symm, upd_same, opC_snoc]
    rfl
theorem ok_close (X : Tx K w mg T) : FnOk P w K mg base CX0 2 T.qclosebracket T.d_qclosebracket ["self"] (spClose T.k_NestReader) := by
  have G_qaddrow := ok_add (P := P) (w := w) (base := base) X
  refine X.F_qclosebracket.okQ sc_qclosebracket (fun vs H Q E h => ?_) (fun cdv A outer s H vs Q E hr h => ?_)
  · obtain ⟨_, _, _, _, _, _, _, rfl, _⟩ := h
    rfl
  obtain ⟨B, p, z, c, rs, op, cl, rfl, hw, R, q⟩ := h
  refine ⟨_, (qss_cons (qs_set (i := 1) sc_qclosebracket.nd rfl (Or.inl rfl) (qe_bm0 PySem.F.plainAttrs_list PySem.F.slot_list_pop PySem.F.type_list_pop mt_pop (qe_fld (qv 0) rfl))) (qss_cons (qs_expr (qe_meth (qv 0) X.cl_NestReader X.h_qaddrow G_qaddrow hr X.b_qaddrow .nil pass0 (qaN (qv 1) (qaK (qe_bm0 PySem.F.plainAttrs_list PySem.F.slot_list_pop PySem.F.type_list_pop mt_pop (qe_fld (qv 0) rfl)) qa_nil)))) (qss_one (qs_fld (qv 0) qe_bl rfl)))), ?_⟩
  obtain ⟨sm, np, dx, lr, lo, lc, us, hp, b1, b2, b3, nro, nrc, noc, hlr, hrs, hlo, hlc⟩ := R
  have hlo' : H lo = some (.lst (opW op ++ [.str z])) := by rw [hlo]; exact congrArg (fun x => some (HO.lst x)) (opW_snoc op z c)
  have hlc' : H lc = some (.lst (opC op ++ [.int (c : Int)])) := by rw [hlc]; exact congrArg (fun x => some (HO.lst x)) (opC_snoc op z c)
  have npo : p ≠ lo := ne_of hp hlo (fun z => nomatch z)
  have npc : p ≠ lc := ne_of hp hlc (fun z => nomatch z)
  refine ⟨_, rfl, p, _, dx, _, _, rfl, hp, X.cl_NestReader, X.n_open_words, fl_o _ _ _ _, .inl ⟨rfl, _, SqL.of hlo'⟩, lo, _, .str z, rfl, rfl, hlo', by simp, ?_⟩
  rw [List.dropLast_concat]
  have hp1 : upd H lo (.lst (opW op)) p = some (.ins T.k_NestReader dx (flds (.ref lr) (.ref lo) (.ref lc) (.bl cl))) := by rw [upd_ne npo]; exact hp
  have hlc1 : upd H lo (.lst (opW op)) lc = some (.lst (opC op ++ [.int (c : Int)])) := by rw [upd_ne noc.symm]; exact hlc'
  refine ⟨_, rfl, p, dx, _, rfl, hp1, mAdd _ _ _ _, _, rfl, _, rfl, p, _, dx, _, _, rfl, hp1, X.cl_NestReader, X.n_inner_counts, fl_i _ _ _ _, .inl ⟨rfl, _, SqL.of hlc1⟩, lc, _, .int (c : Int), rfl, rfl, hlc1, by simp, ?_⟩
  rw [List.dropLast_concat]
  have R1 : RdAt T.k_NestReader B (upd (upd H lo (.lst (opW op))) lc (.lst (opC op))) p ⟨rs, op, cl⟩ := by
    refine ⟨same_upd b3 (same_upd b2 sm), np, dx, lr, lo, lc, us, by rw [upd_ne npc]; exact hp1, b1, b2, b3, nro, nrc, noc, by rw [upd_ne nrc, upd_ne nro]; exact hlr, hrs.imp fun _ _ => RwIs.same ((sameT_lst hlo).trans (sameT_lst hlc1)), by rw [upd_ne noc, upd_same], upd_same⟩
  refine ⟨B, p, z, c, ⟨rs, op, cl⟩, rfl, hw, R1, fun H2 R2 => ?_⟩
  obtain ⟨sm2, _, dx2, lr2, lo2, lc2, us2, hp2, c1, c2, c3, mro, mrc, moc, klr, krs, klo, klc⟩ := R2
  refine ⟨_, rfl, p, _, dx2, _, rfl, hp2, X.cl_NestReader, X.n_closed, fl_few _ _ _ _, ?_⟩
  rw [put_c]
  have nrp : lr2 ≠ p := ne_of klr hp2 (fun z => nomatch z)
  have nop : lo2 ≠ p := ne_of klo hp2 (fun z => nomatch z)
  have ncp : lc2 ≠ p := ne_of klc hp2 (fun z => nomatch z)
  exact q _ ⟨same_upd np sm2, np, dx2, lr2, lo2, lc2, us2, upd_same, c1, c2, c3, mro, mrc, moc, by rw [upd_ne nrp]; exact klr, krs.imp fun _ _ => RwIs.same (sameT_ins hp2), by rw [upd_ne nop]; exact klo, by rw [upd_ne ncp]; exact klc⟩
theorem ok_all (X : Tx K w mg T) : FnOk P w K mg base (CXe P w) 1 T.qallrows T.d_qallrows ["self"] (spAll T.k_NestReader T.k_NoText) := by
  refine X.F_qallrows.okE sc_qallrows (fun vs H Q E h => ?_) (fun cdv A outer s H vs Q E hr h => ?_)
  · obtain ⟨_, _, _, _, _, rfl, _⟩ := h
    rfl
  obtain ⟨B, p, rs, op, cl, rfl, R, q, qe⟩ := h
  refine ⟨_, (qss_cons (qs_if (qt_truth (qe_fld (qv 0) rfl) (fun _ => rfl)) (qss_one (qs_raise rfl rfl X.m_NoText X.e_NoText (qaC qe_str qa_nil) xe_raise)) qss_nil) (qss_one (qs_ret (qe_fld (qv 0) rfl)))), ?_⟩
  obtain ⟨sm, np, dx, lr, lo, lc, us, hp, b1, b2, b3, nro, nrc, noc, hlr, hrs, hlo, hlc⟩ := R
  cases op with
  | nil =>
    refine ⟨_, rfl, p, _, dx, _, _, rfl, hp, X.cl_NestReader, X.n_open_words, fl_o _ _ _ _, false, .inl ⟨_, SqL.of hlo, rfl⟩, iteF ?_⟩
    exact ⟨_, rfl, p, _, dx, _, _, rfl, hp, X.cl_NestReader, X.n_rows, fl_r _ _ _ _, q rfl lr us b1 hlr hrs⟩
  | cons x xs =>
    exact ⟨_, rfl, p, _, dx, _, _, rfl, hp, X.cl_NestReader, X.n_open_words, fl_o _ _ _ _, true, .inl ⟨_, SqL.of hlo, rfl⟩, iteT ⟨(by show 1 <= 10; decide), qe (List.cons_ne_nil _ _)⟩⟩
end
end K07
namespace K07
open PySem L2 NS TR
open TM hiding Endd Ms Run Step pcs run_all
theorem rebase {C : Addr} {B H1 H2 : Hp} {p : Addr} {st : Ms} (R : RdAt C B H1 p st) (s : Same H1 H2) :
    ∃ B', RdAt C B' H2 p st /\ Same B B' /\ (∀ b o, H2 b = some o -> H1 b = none -> B' b = some o) /\ SameT H2 B' := by
  obtain ⟨sm, np, dx, lr, lo, lc, us, hp, b1, b2, b3, nro, nrc, noc, hlr, hrs, hlo, hlc⟩ := R
  have nn : ∀ b, b ≠ p -> b ≠ lr -> b ≠ lo -> b ≠ lc -> (fun b => if b = p \/ b = lr \/ b = lo \/ b = lc then none else H2 b) b = H2 b := fun b h1 h2 h3 h4 => if_neg (by rintro (h | h | h | h); exact h1 h; exact h2 h; exact h3 h; exact h4 h)
  refine ⟨fun b => if b = p \/ b = lr \/ b = lo \/ b = lc then none else H2 b, ⟨fun b o e => ?_, if_pos (.inl rfl), dx, lr, lo, lc, us, s _ _ hp, if_pos (.inr (.inl rfl)), if_pos (.inr (.inr (.inl rfl))), if_pos (.inr (.inr (.inr rfl))), nro, nrc, noc, s _ _ hlr, hrs.imp fun _ _ => RwIs.same (sameT s), s _ _ hlo, s _ _ hlc⟩, fun b o e => ?_, fun b o e n => ?_, fun b xs e => ?_⟩
  · by_cases h : b = p \/ b = lr \/ b = lo \/ b = lc
    · rw [if_pos h] at e; cases e
    · rw [if_neg h] at e; exact e
  · rw [nn b (ne_of_none e np) (ne_of_none e b1) (ne_of_none e b2) (ne_of_none e b3)]
    exact s _ _ (sm _ _ e)
  · rw [nn b (fun z => by rw [z, hp] at n; cases n) (fun z => by rw [z, hlr] at n; cases n) (fun z => by rw [z, hlo] at n; cases n) (fun z => by rw [z, hlc] at n; cases n)]
    exact e
  · rw [nn b (ne_of e (s _ _ hp) (fun z => nomatch z)) (ne_of e (s _ _ hlr) (fun z => nomatch z)) (ne_of e (s _ _ hlo) (fun z => nomatch z)) (ne_of e (s _ _ hlc) (fun z => nomatch z))]
    exact e
theorem m40 : V.str (mkS [40]) = V.str "(" := by decide
theorem m41 : ¬ V.str (mkS [41]) = V.str "(" := by decide
theorem m44 : ¬ V.str (mkS [44]) = V.str "(" := by decide
theorem m0 : ¬ V.str (mkS []) = V.str "(" := by decide
theorem e0 : V.str (mkS []) = V.str "" := by decide
theorem e41 : ¬ V.str (mkS [41]) = V.str "" := by decide
theorem e44 : ¬ V.str (mkS [44]) = V.str "" := by decide
theorem c41 : V.str (mkS [41]) = V.str ")" := by decide
theorem c44 : ¬ V.str (mkS [44]) = V.str ")" := by decide
theorem c0 : ¬ V.str (mkS []) = V.str ")" := by decide
theorem mBegin (r o i c : V) : (flds r o i c).lookup ("begin" : Str) = none := fl_no _ _ _ _ (by decide +kernel) (by decide +kernel) (by decide +kernel) (by decide +kernel)
theorem mEnd (r o i c : V) : (flds r o i c).lookup ("end_word" : Str) = none := fl_no _ _ _ _ (by decide +kernel) (by decide +kernel) (by decide +kernel) (by decide +kernel)
theorem mCount (r o i c : V) : (flds r o i c).lookup ("count_in" : Str) = none := fl_no _ _ _ _ (by decide +kernel) (by decide +kernel) (by decide +kernel) (by decide +kernel)
theorem mClose (r o i c : V) : (flds r o i c).lookup ("close_bracket" : Str) = none := fl_no _ _ _ _ (by decide +kernel) (by decide +kernel) (by decide +kernel) (by decide +kernel)
theorem mAll (r o i c : V) : (flds r o i c).lookup ("all_rows" : Str) = none := fl_no _ _ _ _ (by decide +kernel) (by decide +kernel) (by decide +kernel) (by decide +kernel)
theorem RdAt.ins {C : Addr} {B H : Hp} {p : Addr} {st : Ms} (R : RdAt C B H p st) : ∃ dx lr lo lc, H p = some (.ins C dx (flds lr lo lc (.bl st.cl))) := by
  obtain ⟨_, _, dx, lr, lo, lc, _, h, _⟩ := R
  exact ⟨dx, _, _, _, h⟩
def spDeep : Sp := fun vs H Q _ => ∃ (l : Addr) (us : List V) (rs : List Row), vs = [.ref l] /\ H l = some (.lst us) /\ L2R (RwIs H) rs us /\ rs ≠ [] /\ rs.length <= 50000 /\ ∀ (M : Int) (H' : Hp), (∃ x ∈ rs, M = (x.2.2 : Int)) -> (∀ x ∈ rs, (x.2.2 : Int) <= M) -> Same H H' -> Q (.int M) H'
theorem mkS_inj {a b : List Nat} (h : mkS a = mkS b) : a = b := by
  have := congrArg (fun s : Str => s.cps.toList) h
  simpa [mk_list] using this
theorem endd_det {st : Ms} {w : Str} {a b : List Row} (h1 : Endd st w a) (h2 : Endd st w b) : a = b := by
  cases h1 <;> cases h2 <;> rfl
theorem step_inv {st st1 : Ms} {w s : Str} (h : NS.Step 44 st (w, s) st1) : (s = mkS [40] /\ st.cl = false /\ st1 = ⟨st.rs, st.op ++ [(w, 0)], false⟩) \/
    (∃ rs' op o c, st.op = op ++ [(o, c)] /\ Endd st w rs' /\ ((s = mkS [44] /\ st1 = ⟨rs', op ++ [(o, c + 1)], false⟩) \/ (s = mkS [41] /\ st1 = ⟨rs' ++ [(o, c + 1, op.length + 1)], op, true⟩))) \/
    (∃ rs', Endd st w rs' /\ s = mkS [] /\ st1 = ⟨rs', st.op, st.cl⟩) := by
  generalize hp : (w, s) = p at h
  cases h with
  | opn => cases hp; exact .inl ⟨rfl, rfl, rfl⟩
  | mid he => cases hp; exact .inr (.inl ⟨_, _, _, _, rfl, he, .inl ⟨rfl, rfl⟩⟩)
  | cls he => cases hp; exact .inr (.inl ⟨_, _, _, _, rfl, he, .inr ⟨rfl, rfl⟩⟩)
  | fin he => cases hp; exact .inr (.inr ⟨_, he, rfl, rfl⟩)
theorem snoc_inj {α : Type} {a b : List α} {x y : α} (h : a ++ [x] = b ++ [y]) : a = b /\ x = y := by
  have h1 := List.append_inj' h rfl
  exact ⟨h1.1, by simpa using h1.2⟩
theorem step_det {st s1 s2 : Ms} {p : Str × Str} (h1 : NS.Step 44 st p s1) (h2 : NS.Step 44 st p s2) : s1 = s2 := by
  obtain ⟨w, s⟩ := p
  rcases step_inv h1 with ⟨e1, c1, rfl⟩ | ⟨r1, o1, w1, n1, q1, d1, ⟨e1, rfl⟩ | ⟨e1, rfl⟩⟩ | ⟨r1, d1, e1, rfl⟩ <;> subst e1 <;>
  rcases step_inv h2 with ⟨e2, c2, rfl⟩ | ⟨r2, o2, w2, n2, q2, d2, ⟨e2, rfl⟩ | ⟨e2, rfl⟩⟩ | ⟨r2, d2, e2, rfl⟩ <;>
  first
  | rfl
  | (exact absurd (mkS_inj e2) (by decide))
  | (have hr := endd_det d1 d2; subst hr; first | rfl | (rw [q1] at q2; obtain ⟨rfl, e⟩ := snoc_inj q2; cases e; rfl))
theorem run_snoc {a b c : Ms} {ps : List (Str × Str)} {p : Str × Str} : NS.Run 44 a ps b -> NS.Step 44 b p c -> NS.Run 44 a (ps ++ [p]) c := by
  induction ps generalizing a with
  | nil => intro h1 h2; have h1 : a = b := h1; subst h1; exact ⟨c, h2, rfl⟩
  | cons x xs ih => rintro ⟨d, h, g⟩ h2; exact ⟨d, h, ih g h2⟩
theorem run_app {a c : Ms} {ps qs : List (Str × Str)} : NS.Run 44 a (ps ++ qs) c -> ∃ b, NS.Run 44 a ps b /\ NS.Run 44 b qs c := by
  induction ps generalizing a with
  | nil => intro h; exact ⟨a, rfl, h⟩
  | cons x xs ih =>
    rintro ⟨d, h, g⟩
    obtain ⟨b, g1, g2⟩ := ih g
    exact ⟨b, ⟨d, h, g1⟩, g2⟩
theorem run_det {a b c : Ms} {ps : List (Str × Str)} : NS.Run 44 a ps b -> NS.Run 44 a ps c -> b = c := by
  induction ps generalizing a with
  | nil => intro h1 h2; exact (show a = b from h1).symm.trans h2
  | cons x xs ih => rintro ⟨d, h, g⟩ ⟨d', h', g'⟩; have := step_det h h'; subst this; exact ih g g'
theorem pcs_in {sep : Nat} : ∀ {z acc : List Nat} {p : Str × Str}, p ∈ NS.pcs sep acc z -> (∀ c ∈ p.1.cps.toList, c ∈ acc \/ c ∈ z) /\ p.1.cps.toList.length <= acc.length + z.length /\ (p.2 = mkS [] \/ ∃ c, stp sep c = true /\ p.2 = mkS [c])
  | [], acc, p, h => by
    rw [NS.pcs] at h
    rw [List.mem_singleton.mp h]
    exact ⟨fun c hc => .inl (by rw [mk_list] at hc; exact hc), by rw [mk_list]; simp, .inl rfl⟩
  | c :: r, acc, p, h => by
    rw [NS.pcs] at h
    split at h
    · rename_i hc
      rcases List.mem_cons.mp h with rfl | h
      · exact ⟨fun d hd => .inl (by rw [mk_list] at hd; exact hd), by rw [mk_list]; simp, .inr ⟨c, hc, rfl⟩⟩
      · obtain ⟨a, b, d⟩ := pcs_in h
        refine ⟨fun x hx => ?_, by simp at b ⊢; omega, d⟩
        rcases a x hx with h | h
        · cases h
        · exact .inr (List.mem_cons_of_mem _ h)
    · obtain ⟨a, b, d⟩ := pcs_in h
      refine ⟨fun x hx => ?_, by simp at b ⊢; omega, d⟩
      rcases a x hx with h | h
      · rcases List.mem_append.mp h with h | h
        · exact .inl h
        · exact .inr (by rw [List.mem_singleton.mp h]; exact List.mem_cons_self)
      · exact .inr (List.mem_cons_of_mem _ h)
theorem stp_cases {c : Nat} (h : stp 44 c = true) : c = 40 \/ c = 44 \/ c = 41 := by
  unfold stp at h
  simp only [Bool.or_eq_true, beq_iff_eq] at h
  omega
abbrev ini : Ms := ⟨[], [], false⟩
def spNest (N : Addr) : Sp := fun vs H Q E => ∃ (z : Str), vs = [.str z, .str ","] /\ TxOk z /\
  (∀ st, NS.Run 44 ini (NS.pcs 44 [] z.cps.toList) st -> st.op = [] -> ∀ D us H', Same H H' -> H D = none -> H' D = some (.lst us) -> L2R (RwIs H') st.rs us -> Q (.ref D) H') /\
  ((∀ st, NS.Run 44 ini (NS.pcs 44 [] z.cps.toList) st -> st.op ≠ []) -> ∀ H', Same H H' -> E (.ref N) none H')
theorem st3 : (Str.ofString "(" ++ Str.ofString "," ++ Str.ofString ")") = S3 := by decide +kernel
section
variable {P : Program} {w : World} {K : PySem.W.Frag} {mg : Str -> Option Value} {base : Heap} {T : Adr}
theorem ok_nest (X : Tx K w mg T) : FnOk P w K mg base (CXe P w) 4 T.qnestrows T.d_qnestrows ["text", "between"] (spNest T.k_NoText) := by
  have G_qinit := (ok_init (P := P) (w := w) (base := base) X).mono (show 1 <= 2 by decide)
  have G_qpieces := (ok_pieces (P := P) (w := w) (base := base) X).mono (show 1 <= 3 by decide)
  have G_qbegin := (ok_begin (P := P) (w := w) (base := base) X).mono (show 1 <= 3 by decide)
  have G_qendword := (ok_end (P := P) (w := w) (base := base) X).mono (show 2 <= 3 by decide)
  have G_qcountin := (ok_count (P := P) (w := w) (base := base) X).mono (show 1 <= 3 by decide)
  have G_qclosebracket := (ok_close (P := P) (w := w) (base := base) X).mono (show 2 <= 3 by decide)
  have G_qallrows := (ok_all (P := P) (w := w) (base := base) X).mono (show 1 <= 3 by decide)
  refine X.F_qnestrows.okE sc_qnestrows (fun vs H Q E h => ?_) (fun cdv A outer s H vs Q E hr h => ?_)
  · obtain ⟨_, rfl, _⟩ := h
    rfl
  obtain ⟨z, rfl, hz, q, qe⟩ := h
  refine ⟨_, (qss_cons (qs_set (i := 2) sc_qnestrows.nd rfl (Or.inl rfl) (qe_make0 X.mk_NestReader G_qinit hr rfl X.m_NestReader X.b_qinit .nil pass0)) (qss_cons (qs_for PassesOwn.leaving rfl (qi_list (qe_call G_qpieces hr rfl X.m_qpieces X.F_qpieces.kp X.b_qpieces .nil pass0 (qaN (qv 0) (qaB (qe_op op_add_str (qe_op op_add_str qe_str (qv 1)) qe_str) qa_nil)))) (qg_tup rfl (qgs_cons (qg_name (i := 3) sc_qnestrows.nd rfl (Or.inl rfl)) (qgs_cons (qg_name (i := 4) sc_qnestrows.nd rfl (Or.inl rfl)) qgs_nil))) (qss_one (qs_if (qt_cmpR op_eq (qv 4) qe_str (nomark _)) (qss_one (qs_expr (qe_meth (qv 2) X.cl_NestReader X.h_qbegin G_qbegin hr X.b_qbegin .nil pass_on (qaN (qv 3) qa_nil)))) (qss_cons (qs_expr (qe_meth (qv 2) X.cl_NestReader X.h_qendword G_qendword hr X.b_qendword .nil pass_on (qaN (qv 3) qa_nil))) (qss_cons (qs_if (qt_cmpR op_ne (qv 4) qe_str (nomark _)) (qss_one (qs_expr (qe_meth0 (qv 2) X.cl_NestReader X.h_qcountin G_qcountin hr X.b_qcountin .nil pass_on))) qss_nil) (qss_one (qs_if (qt_cmpR op_eq (qv 4) qe_str (nomark _)) (qss_one (qs_expr (qe_meth0 (qv 2) X.cl_NestReader X.h_qclosebracket G_qclosebracket hr X.b_qclosebracket .nil pass0))) qss_nil))))))) (qss_one (qs_ret (qe_meth0 (qv 2) X.cl_NestReader X.h_qallrows G_qallrows hr X.b_qallrows .nil pass_on))))), ?_⟩
  intro p dx nx ndx nex
  have s0 : Same H (upd (upd H dx (.own p)) p (.ins T.k_NestReader dx [])) := fun b o e => by
    rw [upd_ne (ne_of_none e nx), upd_ne (ne_of_none e ndx)]
    exact e
  refine ⟨H, p, dx, rfl, upd_same, s0, nx, fun H1 R1 => ⟨rfl, ?_⟩⟩
  have hl0 := hz.1
  refine ⟨_, rfl, _, rfl, _, _, rfl, rfl, fits2 (by decide), _, _, rfl, rfl, fits2 (by decide), z, _, 44, rfl, by omega, fun c hc => by rw [st3]; exact in3 c (hz.2 c hc), by decide, fun l us H2 s2 nl hl hps => ?_⟩
  obtain ⟨B, R2, sB, new, sT⟩ := rebase R1 s2
  have hlB : B l = some (.lst us) := new _ _ hl nl
  have hpsB : L2R (PcIs B) (NS.pcs 44 [] z.cps.toList) us := hps.imp fun _ _ => PcIs.same sT
  have plen := NS.pcs_len 44 z.cps.toList []
  have ulen := hpsB.len
  have pin : ∀ p ∈ NS.pcs 44 [] z.cps.toList, TxOk p.1 /\ (p.2 = mkS [] \/ ∃ c, stp 44 c = true /\ p.2 = mkS [c]) := fun p hp => by
    obtain ⟨a, b, c⟩ := pcs_in hp
    refine ⟨⟨by rw [len_list]; rw [len_list] at hl0; simp at b hl0 ⊢; omega, fun x hx => ?_⟩, c⟩
    rcases a x hx with h | h
    · cases h
    · exact hz.2 x h
  rw [<- len_list] at plen
  generalize hpp : NS.pcs 44 [] z.cps.toList = pp at hpsB plen ulen pin q qe
  refine ⟨l, rfl, ⟨_, SqL.of hl⟩, for_list (K := K) (a := l) (xs := us) (fun j σ H' => (∃ x3 x4, σ = [some (.str z), some (.str ","), some (.ref p), x3, x4]) /\ ∃ st, RdAt T.k_NestReader B H' p st /\ NS.Run 44 ini (pp.take j) st /\ st.rs.length <= 2 * j /\ st.op.length <= j)
    ⟨⟨none, none, rfl⟩, _, R2, rfl, Nat.le_refl _, Nat.le_refl _⟩ (fun j σ H' _ ⟨_, st, R, _⟩ => SqL.of (R.sm _ _ hlB)) ?_ ?_⟩
  · rintro j y σ H' hy ⟨⟨x3, x4, rfl⟩, ⟨rs, op, cl⟩, R, hrun, hw1, hw2⟩
    obtain ⟨⟨wd, sp⟩, hpr, a, rfl, ha⟩ := hpsB.get hy
    have hj := lt_of_some hy
    have ha' := R.sm _ _ ha
    have hw1 : rs.length <= 2 * j := hw1
    have hw2 : op.length <= j := hw2
    have no : (¬ ∃ st1, NS.Step 44 ⟨rs, op, cl⟩ (wd, sp) st1) -> ∀ H3, Same B H3 -> E (.ref T.k_NoText) none H3 := fun h H3 s3 => qe (fun st hst => by
      obtain ⟨hj2, epr⟩ := List.getElem?_eq_some_iff.mp hpr
      rw [<- List.take_append_drop j pp, List.drop_eq_getElem_cons hj2, epr] at hst
      obtain ⟨b, g1, d, g2, g3⟩ := run_app hst
      have := run_det g1 hrun
      subst this
      exact absurd ⟨_, g2⟩ h) H3 (sB.trans s3)
    have nx : ∀ st1, NS.Step 44 ⟨rs, op, cl⟩ (wd, sp) st1 -> NS.Run 44 ini (pp.take (j + 1)) st1 /\ st1.rs.length <= 2 * (j + 1) /\ st1.op.length <= j + 1 := fun st1 h => by
      have w1 := NS.step_wt h
      have w3 : st1.rs.length <= rs.length + 2 /\ st1.op.length <= op.length + 1 := w1
      refine ⟨?_, by omega, by omega⟩
      rw [take_snocA hpr]
      exact run_snoc hrun h
    obtain ⟨tw, hsp⟩ := pin (wd, sp) (List.mem_of_getElem? hpr)
    refine ⟨a, _, rfl, SqT.of ha', rfl, _, _, rfl, _, _, rfl, rfl, ?_⟩
    obtain ⟨dx1, lr1, lo1, lc1, hp1⟩ := R.ins
    have hsp : sp = mkS [40] \/ sp = mkS [] \/ sp = mkS [44] \/ sp = mkS [41] := by
      rcases hsp with h | ⟨c, h1, h2⟩
      · exact .inr (.inl h)
      · rcases stp_cases h1 with rfl | rfl | rfl
        · exact .inl h2
        · exact .inr (.inr (.inl h2))
        · exact .inr (.inr (.inr h2))
    rcases hsp with rfl | rfl | rfl | rfl
    · refine ⟨_, rfl, rfl, _, rfl, iteYd m40 ⟨_, rfl, p, dx1, _, rfl, hp1, mBegin _ _ _ _, _, rfl, B, p, wd, rs, op, cl, rfl, by omega, R, (fun hc H3 R3 => ?_), fun hc => no ?_ _ R.sm⟩⟩
      · subst hc
        obtain ⟨n1, n2, n3⟩ := nx _ .opn
        exact ⟨⟨_, _, rfl⟩, _, R3, n1, n2, n3⟩
      · rintro ⟨st1, h⟩
        rcases step_inv h with ⟨_, e, _⟩ | ⟨_, _, _, _, _, _, ⟨e, _⟩ | ⟨e, _⟩⟩ | ⟨_, _, e, _⟩
        · rw [hc] at e; cases e
        · exact absurd (mkS_inj e) (by decide)
        · exact absurd (mkS_inj e) (by decide)
        · exact absurd (mkS_inj e) (by decide)
    · refine ⟨_, rfl, rfl, _, rfl, iteNd m0 ⟨_, rfl, p, dx1, _, rfl, hp1, mEnd _ _ _ _, _, rfl, B, p, wd, _, rfl, tw, by show rs.length <= 90000; omega, R, (fun rs' he H3 R3 => ?_), fun hn => no ?_ _ R.sm⟩⟩
      · obtain ⟨n1, n2, n3⟩ := nx _ (.fin he)
        exact ⟨_, rfl, rfl, _, rfl, iteNS e0 ⟨_, rfl, rfl, _, rfl, iteNd c0 ⟨⟨_, _, rfl⟩, _, R3, n1, n2, n3⟩⟩⟩
      · rintro ⟨st1, h⟩
        rcases step_inv h with ⟨e, _⟩ | ⟨_, _, _, _, _, d, _⟩ | ⟨_, d, _⟩
        · exact absurd (mkS_inj e) (by decide)
        · exact hn ⟨_, d⟩
        · exact hn ⟨_, d⟩
    · refine ⟨_, rfl, rfl, _, rfl, iteNd m44 ⟨_, rfl, p, dx1, _, rfl, hp1, mEnd _ _ _ _, _, rfl, B, p, wd, _, rfl, tw, by show rs.length <= 90000; omega, R, (fun rs' he H3 R3 => ?_), fun hn => no ?_ _ R.sm⟩⟩
      · obtain ⟨dx3, lr3, lo3, lc3, hp3⟩ := R3.ins
        refine ⟨_, rfl, rfl, _, rfl, iteNe (fun _ => ?_) (fun z => absurd z e44)⟩
        refine ⟨_, rfl, p, dx3, _, rfl, hp3, mCount _ _ _ _, B, p, rs', op, cl, rfl, R3, (fun o zz c eo H4 R4 => ?_), fun eo => no ?_ _ R3.sm⟩
        · subst eo
          obtain ⟨n1, n2, n3⟩ := nx _ (.mid he)
          exact ⟨_, rfl, rfl, _, rfl, iteNd c44 ⟨⟨_, _, rfl⟩, _, R4, n1, n2, n3⟩⟩
        · subst eo
          rintro ⟨st1, h⟩
          rcases step_inv h with ⟨e, _⟩ | ⟨_, o, _, _, eo, _, _⟩ | ⟨_, _, e, _⟩
          · exact absurd (mkS_inj e) (by decide)
          · exact absurd eo.symm (by simp)
          · exact absurd (mkS_inj e) (by decide)
      · rintro ⟨st1, h⟩
        rcases step_inv h with ⟨e, _⟩ | ⟨_, _, _, _, _, d, _⟩ | ⟨_, d, _⟩
        · exact absurd (mkS_inj e) (by decide)
        · exact hn ⟨_, d⟩
        · exact hn ⟨_, d⟩
    · refine ⟨_, rfl, rfl, _, rfl, iteNd m41 ⟨_, rfl, p, dx1, _, rfl, hp1, mEnd _ _ _ _, _, rfl, B, p, wd, _, rfl, tw, by show rs.length <= 90000; omega, R, (fun rs' he H3 R3 => ?_), fun hn => no ?_ _ R.sm⟩⟩
      · obtain ⟨dx3, lr3, lo3, lc3, hp3⟩ := R3.ins
        have er' : rs'.length <= rs.length + 1 := NS.endd_op he
        refine ⟨_, rfl, rfl, _, rfl, iteNe (fun _ => ?_) (fun z => absurd z e41)⟩
        refine ⟨_, rfl, p, dx3, _, rfl, hp3, mCount _ _ _ _, B, p, rs', op, cl, rfl, R3, (fun o zz c eo H4 R4 => ?_), fun eo => no ?_ _ R3.sm⟩
        · subst eo
          obtain ⟨n1, n2, n3⟩ := nx _ (.cls he)
          obtain ⟨dx4, lr4, lo4, lc4, hp4⟩ := R4.ins
          refine ⟨_, rfl, rfl, _, rfl, iteYd c41 ⟨_, rfl, p, dx4, _, rfl, hp4, mClose _ _ _ _, B, p, zz, c + 1, rs', o, false, rfl, by omega, R4, fun H5 R5 => ?_⟩⟩
          exact ⟨⟨_, _, rfl⟩, _, R5, n1, n2, n3⟩
        · subst eo
          rintro ⟨st1, h⟩
          rcases step_inv h with ⟨e, _⟩ | ⟨_, o, _, _, eo, _, _⟩ | ⟨_, _, e, _⟩
          · exact absurd (mkS_inj e) (by decide)
          · exact absurd eo.symm (by simp)
          · exact absurd (mkS_inj e) (by decide)
      · rintro ⟨st1, h⟩
        rcases step_inv h with ⟨e, _⟩ | ⟨_, _, _, _, _, d, _⟩ | ⟨_, d, _⟩
        · exact absurd (mkS_inj e) (by decide)
        · exact hn ⟨_, d⟩
        · exact hn ⟨_, d⟩
  · rintro σ H' ⟨⟨x3, x4, rfl⟩, ⟨rs, op, cl⟩, R, hrun, hw1, hw2⟩
    rw [List.take_of_length_le (by omega)] at hrun
    obtain ⟨dx1, lr1, lo1, lc1, hp1⟩ := R.ins
    refine ⟨_, rfl, p, dx1, _, rfl, hp1, mAll _ _ _ _, B, p, rs, op, cl, rfl, R, (fun eo lr us' nlr hlr hrs => q _ hrun eo lr us' H' (sB.trans R.sm) (sB.free nlr) hlr hrs), fun eo => qe (fun st hst => ?_) _ (sB.trans R.sm)⟩
    have := run_det hst hrun
    subst this
    exact eo
theorem ok_deep (X : Tx K w mg T) : FnOk P w K mg base CX0 1 T.qdeepest T.d_qdeepest ["rows"] spDeep := by
  refine X.F_qdeepest.okQ sc_qdeepest (fun vs H Q E h => ?_) (fun cdv A outer s H vs Q E hr h => ?_)
  · obtain ⟨_, _, _, rfl, _⟩ := h
    rfl
  obtain ⟨l, us, rs, rfl, hl, hrs, hne, hlen, q⟩ := h
  refine ⟨_, (qss_one (qs_ret (qe_callB (call_maxL rfl) rfl X.z_max PyProof.Rows.boot_max (qaE (qe_compT (ts := ["word", "count", "level"]) (ys := []) (js := []) rfl rfl (qi_list (qv 0)) (fun _ _ _ _ _ => qg_tupC (K := K) (n := 3) rfl rfl (qgs_cons (qg_name (i := 0) (show (["word", "count", "level"] : List Str).Nodup by decide) rfl (Or.inl rfl)) (qgs_cons (qg_name (i := 1) (show (["word", "count", "level"] : List Str).Nodup by decide) rfl (Or.inl rfl)) (qgs_cons (qg_name (i := 2) (show (["word", "count", "level"] : List Str).Nodup by decide) rfl (Or.inl rfl)) qgs_nil)))) (fun _ _ _ _ _ => qif_nil) (fun _ _ _ _ _ => (qv 2))) qa_nil)))), ?_⟩
  have lus := hrs.len
  refine ⟨_, rfl, l, rfl, ⟨_, SqL.of hl⟩, fun D hD => ?_⟩
  refine compT_lst (K := K) (xs := us) (ys := (rs.map fun x => (x.2.2 : Int)).map V.int) (fitsL (by omega)) (by rw [List.length_map, List.length_map, lus]) (SqL.of hl) hD (fun i x y H' hx hy sm Q' q' => ?_) (fun H' sm hd => ?_)
  · obtain ⟨r, hr', t, rfl, ht⟩ := hrs.get hx
    have e : y = V.int (r.2.2 : Int) := by
      rw [List.getElem?_map, List.getElem?_map, hr'] at hy
      exact (Option.some.inj hy).symm
    rw [e] at q'
    exact ⟨t, _, rfl, SqT.of (sm _ _ ht), rfl, _, _, rfl, _, _, rfl, _, _, rfl, rfl, [some _, some _, some _], rfl, rfl, _, rfl, q' _ (Same.refl _)⟩
  · refine ⟨D, rs.map fun x => (x.2.2 : Int), rfl, SqL.of hd, fun z => hne (List.map_eq_nil_iff.mp z), fun M hM hB => q M H' ?_ (fun x hx => hB _ (List.mem_map.mpr ⟨x, hx, rfl⟩)) sm⟩
    obtain ⟨x, hx, rfl⟩ := List.mem_map.mp hM
    exact ⟨x, hx, rfl⟩
end
end K07
namespace K07
open PySem L2 NS TR
open TM hiding Endd Ms Run Step pcs run_all
def hide (H : Hp) (l : Addr) : Hp := fun b => if b = l then none else H b
theorem hide_ne {H : Hp} {l b : Addr} (h : b ≠ l) : hide H l b = H b := if_neg h
theorem hide_self {H : Hp} {l : Addr} : hide H l l = none := if_pos rfl
theorem hide_at {H : Hp} {l b : Addr} {o : HO} (h : hide H l b = some o) : b ≠ l /\ H b = some o := by
  by_cases e : b = l
  · rw [e, hide_self] at h; cases h
  · rw [hide_ne e] at h; exact ⟨e, h⟩
theorem hide_same {H : Hp} {l : Addr} : Same (hide H l) H := fun b o h => (hide_at h).2
def spTake : Sp := fun vs H Q _ => ∃ (r : Addr) (c : Nat) (xs ys : List V), vs = [.ref r, .int (c : Int)] /\ H r = some (.lst (xs ++ ys)) /\ ys.length = c /\ c <= 50000 /\ ∀ t H', Same (hide H r) H' -> H' r = some (.lst xs) -> H' t = some (.tup ys) -> Q (.ref t) H'
section
variable {P : Program} {w : World} {K : PySem.W.Frag} {mg : Str -> Option Value} {base : Heap} {T : Adr}
theorem ok_take (X : Tx K w mg T) : FnOk P w K mg base CX0 1 T.qtakenoff T.d_qtakenoff ["ready", "count"] spTake := by
  refine X.F_qtakenoff.okQ sc_qtakenoff (fun vs H Q E h => ?_) (fun cdv A outer s H vs Q E hr h => ?_)
  · obtain ⟨_, _, _, _, rfl, _⟩ := h
    rfl
  obtain ⟨r, c, xs, ys, rfl, hr', hc, hc1, q⟩ := h
  refine ⟨_, (qss_cons (qs_set (i := 2) sc_qtakenoff.nd rfl (Or.inl rfl) (qe_lst qa_nil)) (qss_cons (qs_while PassesOwn.never (qt_cmpR op_lt (qe_callB call_len_seq rfl X.z_len PySem.boot_len (qaN (qv 2) qa_nil)) (qv 1) (nomark _)) (qss_one (qs_expr (qe_bm PySem.F.plainAttrs_list PySem.F.slot_list_append PySem.F.type_list_append mt_append (qv 2) (qaK (qe_bm0 PySem.F.plainAttrs_list PySem.F.slot_list_pop PySem.F.type_list_pop mt_pop (qv 0)) qa_nil))))) (qss_one (qs_ret (qe_tupRevL rfl rfl X.z_tuple rfl X.z_reversed (qv 2)))))), ?_⟩
  refine ⟨(by show 0 <= sizeLine; decide), fun l hl => ?_⟩
  have nlr : l ≠ r := ne_of_none' hr' hl
  have hhl : hide H r l = none := by rw [hide_ne nlr]; exact hl
  refine ⟨fun m σ H' => ∃ k, k <= c /\ m = c - k /\ σ = [some (.ref r), some (.int (c : Int)), some (.ref l)] /\ Same (hide H r) H' /\ H' r = some (.lst (xs ++ ys.take (c - k))) /\ H' l = some (.lst (ys.drop (c - k)).reverse),
    ⟨_, 0, Nat.zero_le _, rfl, rfl, same_upd hhl hide_same, ?_, ?_⟩, ?_⟩
  · rw [upd_ne nlr.symm, hr', Nat.sub_zero, <- hc, List.take_length]
  · rw [upd_same, Nat.sub_zero, <- hc, List.drop_length]
    rfl
  rintro m σ H1 ⟨k, hk, rfl, rfl, sm, h1, h2⟩
  have ll : (ys.drop (c - k)).reverse.length = k := by rw [List.length_reverse, List.length_drop]; omega
  refine ⟨_, rfl, l, _, rfl, .inl (SqL.of h2), _, rfl, _, _, rfl, rfl, _, rfl, iteDd (fun hlt => ⟨_, fun σ' H'' h => h, ?_⟩) (fun hge => ?_)⟩
  · rw [ll] at hlt
    have hkc : k < c := by omega
    obtain ⟨y, hy⟩ := some_of_lt (xs := ys) (i := c - k - 1) (by omega)
    have e1 : ys.take (c - k) = ys.take (c - (k + 1)) ++ [y] := by
      have := take_snocA hy
      rw [show c - k - 1 + 1 = c - k by omega] at this
      exact this
    have e2 : ys.drop (c - (k + 1)) = y :: ys.drop (c - k) := by
      obtain ⟨hi, e⟩ := List.getElem?_eq_some_iff.mp hy
      rw [show c - (k + 1) = c - k - 1 by omega, List.drop_eq_getElem_cons hi, e, show c - k - 1 + 1 = c - k by omega]
    rw [e1, <- List.append_assoc] at h1
    refine ⟨_, rfl, .inl ⟨rfl, _, SqL.of h2⟩, _, rfl, .inl ⟨rfl, _, SqL.of h1⟩, r, _, y, rfl, rfl, h1, by simp, l, _, _, rfl, rfl, by rw [upd_ne nlr]; exact h2, fitsL (by rw [ll]; omega), ?_⟩
    refine ⟨c - (k + 1), by omega, k + 1, hkc, rfl, rfl, same_upd hhl (same_upd hide_self sm), ?_, ?_⟩
    · rw [upd_ne nlr.symm, upd_same, List.dropLast_concat]
    · rw [upd_same, e2, List.reverse_cons]
  · rw [ll] at hge
    have hkc : k = c := by omega
    subst hkc
    rw [Nat.sub_self] at h1 h2
    refine ⟨_, rfl, l, _, rfl, SqL.of h2, fun t ht => ?_⟩
    have s1 := same_new ht (.tup (ys.drop 0).reverse.reverse)
    refine q t _ (sm.trans s1) ?_ ?_
    · rw [s1 _ _ h1]
      simp
    · rw [upd_same]
      simp
end
end K07
namespace K07
open PySem L2 TM
theorem mkS_inj' {a b : List Nat} (h : mkS a = mkS b) : a = b := by
  have := congrArg (fun s : Str => s.cps.toList) h
  simpa [mk_list] using this
def prA : List Tm -> List Nat
  | [] => []
  | t :: ts => (sh t).cps.toList ++ 44 :: prA ts
def prO : List (Str × List Tm) -> List Nat
  | [] => []
  | p :: op => p.1.cps.toList ++ 40 :: (prA p.2 ++ prO op)
theorem prA_snoc : ∀ (ts : List Tm) (t : Tm), prA (ts ++ [t]) = prA ts ++ ((sh t).cps.toList ++ [44])
  | [], t => by simp [prA]
  | u :: ts, t => by rw [List.cons_append, prA, prA, prA_snoc ts t]; simp
theorem prO_snoc : ∀ (op : List (Str × List Tm)) (d : Str) (ts : List Tm), prO (op ++ [(d, ts)]) = prO op ++ (d.cps.toList ++ 40 :: prA ts)
  | [], d, ts => by simp [prO]
  | p :: op, d, ts => by rw [List.cons_append, prO, prO, prO_snoc op d ts]; simp
def prR : Option Tm -> List Nat
  | none => []
  | some t => (sh t).cps.toList
def prS (m : Ms) : List Nat := prO m.op ++ prR m.rd
theorem joined_pr : ∀ (ts : List Tm) (t : Tm), joined (ts ++ [t]) = prA ts ++ (sh t).cps.toList
  | [], t => by simp [joined, prA]
  | u :: ts, t => by
    have e := joined_pr ts t
    rw [List.cons_append, prA]
    cases h : ts ++ [t] with
    | nil => simp at h
    | cons x r =>
      rw [joined, <- h, e]
      simp
structure WfS (m : Ms) : Prop where
  op : ∀ p ∈ m.op, p.1 ∈ deeds /\ ∀ t ∈ p.2, Wf t
  rd : ∀ t, m.rd = some t -> Wf t
theorem endd_pr {m m1 : Ms} {w : Str} (h : Endd m w m1) (g : WfS m) : prS m1 = prS m ++ w.cps.toList /\ WfS m1 := by
  cases h with
  | leaf hl hw => exact ⟨by simp [prS, prR], g.op, fun t e => by cases e; exact hw⟩
  | again => exact ⟨by rw [mk_list, List.append_nil], g⟩
theorem step_pr {m m1 : Ms} {p : Str × Str} (h : Step m p m1) (g : WfS m) : prS m1 = prS m ++ (p.1.cps.toList ++ p.2.cps.toList) /\ WfS m1 := by
  cases h with
  | opn hd =>
    refine ⟨by simp [prS, prR, prO_snoc, prA, mk_list], fun p hp => ?_, fun t e => by cases e⟩
    rcases List.mem_append.mp hp with h | h
    · exact g.op p h
    · rw [List.mem_singleton.mp h]; exact ⟨hd, fun t ht => by cases ht⟩
  | fin he =>
    obtain ⟨e, g1⟩ := endd_pr he g
    exact ⟨by rw [e]; simp [mk_list], g1⟩
  | @comma st z d op ts t cnt dp he =>
    obtain ⟨e, g1⟩ := endd_pr he g
    have e : prO (op ++ [(d, ts)]) ++ (sh t).cps.toList = prS m ++ z.cps.toList := e
    refine ⟨?_, fun p hp => ?_, fun t e => by cases e⟩
    · show prO (op ++ [(d, ts ++ [t])]) ++ [] = prS m ++ (z.cps.toList ++ (mkS [44]).cps.toList)
      rw [<- List.append_assoc, <- e, prO_snoc, prO_snoc, prA_snoc, mk_list]
      simp
    · rcases List.mem_append.mp hp with h | h
      · exact g1.op p (List.mem_append.mpr (.inl h))
      · rw [List.mem_singleton.mp h]
        obtain ⟨a, b⟩ := g1.op (d, ts) (List.mem_append.mpr (.inr (by simp)))
        refine ⟨a, fun u hu => ?_⟩
        rcases List.mem_append.mp hu with h | h
        · exact b u h
        · rw [List.mem_singleton.mp h]; exact g1.rd t rfl
  | @close st z d op ts t cnt dp he h3 =>
    obtain ⟨e, g1⟩ := endd_pr he g
    have e : prO (op ++ [(d, ts)]) ++ (sh t).cps.toList = prS m ++ z.cps.toList := e
    obtain ⟨a, b⟩ := g1.op (d, ts) (List.mem_append.mpr (.inr (by simp)))
    refine ⟨?_, fun p hp => g1.op p (List.mem_append.mpr (.inl hp)), fun u e => ?_⟩
    · show prO op ++ (sh (.call d (ts ++ [t]))).cps.toList = prS m ++ (z.cps.toList ++ (mkS [41]).cps.toList)
      rw [<- List.append_assoc, <- e, prO_snoc, call_list, joined_pr, mk_list]
      simp
    · cases e
      unfold Wf
      refine ⟨a, by simp, by rw [List.length_append]; exact h3, wfs_of fun u hu => ?_⟩
      rcases List.mem_append.mp hu with h | h
      · exact b u h
      · rw [List.mem_singleton.mp h]; exact g1.rd t rfl
def flat (ps : List (Str × Str)) : List Nat := (ps.map fun p => p.1.cps.toList ++ p.2.cps.toList).flatten
theorem run_pr : ∀ {ps : List (Str × Str)} {m m1 : Ms}, Run m ps m1 -> WfS m -> prS m1 = prS m ++ flat ps /\ WfS m1
  | [], m, m1, h, g => by have h : m = m1 := h; subst h; exact ⟨by simp [flat], g⟩
  | p :: ps, m, m1, ⟨d, h1, h2⟩, g => by
    obtain ⟨e1, g1⟩ := step_pr h1 g
    obtain ⟨e2, g2⟩ := run_pr h2 g1
    exact ⟨by rw [e2, e1]; simp [flat], g2⟩
theorem pcs_flat : ∀ (L acc : List Nat), flat (pcs acc L) = acc ++ L
  | [], acc => by simp [pcs, flat, mk_list]
  | c :: L, acc => by
    rw [pcs]
    split
    · have := pcs_flat L []
      unfold flat at this ⊢
      rw [List.map_cons, List.flatten_cons, this]
      simp [mk_list]
    · rw [pcs_flat L]
      simp
abbrev m0s : Ms := ⟨[], none, 0, 0⟩
theorem sound {L : List Nat} {t : Tm} {c d : Int} (h : Run m0s (pcs [] L) ⟨[], some t, c, d⟩) : L = (sh t).cps.toList /\ Wf t := by
  obtain ⟨e, g⟩ := run_pr h ⟨(fun p hp => nomatch hp), (fun t e => nomatch e)⟩
  rw [pcs_flat] at e
  exact ⟨by simpa [prS, prO, prR] using e.symm, g.rd t rfl⟩
def rowG (x : NS.Row) : Prop := (x.2.1 = 0 /\ ∃ t, Leaf t /\ Wf t /\ x.1 = sh t) \/ (0 < x.2.1 /\ x.2.1 <= 3 /\ x.1 ∈ deeds)
def opG (x : Str × Nat) : Prop := x.2 <= 2 /\ x.1 ∈ deeds
structure AG (st : NS.Ms) : Prop where
  rs : ∀ x ∈ st.rs, rowG x
  op : ∀ x ∈ st.op, opG x
theorem pcs_eq : ∀ (L acc : List Nat), NS.pcs 44 acc L = pcs acc L
  | [], acc => rfl
  | c :: L, acc => by
    rw [NS.pcs, pcs]
    have e : NS.stp 44 c = stopB c := rfl
    rw [e, pcs_eq L, pcs_eq L]
theorem endd_ag {st : NS.Ms} {w : Str} {rs : List NS.Row} (h : NS.Endd st w rs) (g : ∀ x ∈ rs, rowG x) : (∀ x ∈ st.rs, rowG x) /\ ((st.cl = false /\ ∃ t, Leaf t /\ Wf t /\ w = sh t) \/ (st.cl = true /\ w = mkS [])) := by
  cases h with
  | word =>
    refine ⟨fun x hx => g x (List.mem_append.mpr (.inl hx)), .inl ⟨rfl, ?_⟩⟩
    rcases g _ (List.mem_append.mpr (.inr (List.mem_singleton.mpr rfl))) with ⟨_, h⟩ | ⟨h, _⟩
    · exact h
    · exact absurd h (Nat.lt_irrefl 0)
  | again => exact ⟨g, .inr ⟨rfl, rfl⟩⟩
theorem step_ag {st st1 : NS.Ms} {p : Str × Str} (h : NS.Step 44 st p st1) (g : AG st1) : AG st := by
  cases h with
  | opn => exact ⟨g.rs, fun x hx => g.op x (List.mem_append.mpr (.inl hx))⟩
  | @mid rs rs' op cl o w c d =>
    refine ⟨(endd_ag d g.rs).1, fun x hx => ?_⟩
    rcases List.mem_append.mp hx with h | h
    · exact g.op x (List.mem_append.mpr (.inl h))
    · rw [List.mem_singleton.mp h]
      obtain ⟨a, b⟩ := g.op (o, c + 1) (List.mem_append.mpr (.inr (by simp)))
      exact ⟨Nat.le_of_succ_le a, b⟩
  | @cls rs rs' op cl o w c d =>
    refine ⟨(endd_ag d fun x hx => g.rs x (List.mem_append.mpr (.inl hx))).1, fun x hx => ?_⟩
    rcases List.mem_append.mp hx with h | h
    · exact g.op x h
    · rw [List.mem_singleton.mp h]
      rcases g.rs (o, c + 1, op.length + 1) (List.mem_append.mpr (.inr (by simp))) with ⟨h, _⟩ | ⟨_, h, e⟩
      · exact absurd h (by simp)
      · exact ⟨Nat.le_of_succ_le_succ h, e⟩
  | fin d => exact ⟨(endd_ag d g.rs).1, g.op⟩
theorem run_ag : ∀ {ps : List (Str × Str)} {a b : NS.Ms}, NS.Run 44 a ps b -> AG b -> AG a
  | [], a, b, h, g => by have h : a = b := h; subst h; exact g
  | p :: ps, a, b, ⟨d, h1, h2⟩, g => step_ag h1 (run_ag h2 g)
structure Sim (a : NS.Ms) (m : Ms) : Prop where
  op : a.op = m.op.map fun p => (p.1, p.2.length)
  cl : a.cl = m.rd.isSome
theorem map_snoc {α β : Type} {f : α -> β} {l : List α} {a : List β} {x : β} (h : a ++ [x] = l.map f) : ∃ l' y, l = l' ++ [y] /\ a = l'.map f /\ x = f y := by
  rcases List.eq_nil_or_concat l with rfl | ⟨l', y, rfl⟩
  · simp at h
  · rw [List.concat_eq_append, List.map_append, List.map_singleton] at h
    obtain ⟨e1, e2⟩ := List.append_inj' h rfl
    exact ⟨l', y, List.concat_eq_append .., e1, by simpa using e2⟩
theorem sim_end {a : NS.Ms} {m : Ms} {w : Str} {rs : List NS.Row} (s : Sim a m) (h : NS.Endd a w rs) (g : ∀ x ∈ rs, rowG x) : ∃ t c d, Endd m w ⟨m.op, some t, c, d⟩ := by
  obtain ⟨op, rd, cnt, dp⟩ := m
  rcases (endd_ag h g).2 with ⟨e, t, hl, hw, rfl⟩ | ⟨e, rfl⟩
  · have := s.cl
    rw [e] at this
    cases rd with
    | none => exact ⟨t, _, _, .leaf hl hw⟩
    | some _ => cases this
  · have := s.cl
    rw [e] at this
    cases rd with
    | none => cases this
    | some t => exact ⟨t, _, _, .again⟩
theorem sim_run : ∀ (L acc : List Nat) {a b : NS.Ms} {m : Ms}, NS.Run 44 a (pcs acc L) b -> AG b -> b.op = [] -> Sim a m -> ∃ t c d, Run m (pcs acc L) ⟨[], some t, c, d⟩
  | [], acc, a, b, m, h, g, hb, s => by
    obtain ⟨b', h, e⟩ := h
    have e : b' = b := e
    subst e
    obtain ⟨w, hw⟩ : ∃ w, w = (mkS acc, mkS []) := ⟨_, rfl⟩
    rw [<- hw] at h
    cases h with
    | opn => exact absurd (mkS_inj' (congrArg Prod.snd hw : mkS [_] = mkS [])) (by simp)
    | mid d => exact absurd (mkS_inj' (congrArg Prod.snd hw : mkS [_] = mkS [])) (by simp)
    | cls d => exact absurd (mkS_inj' (congrArg Prod.snd hw : mkS [_] = mkS [])) (by simp)
    | @fin rs rs' op cl w d =>
      have hb : op = [] := hb
      obtain ⟨t, c, d', e⟩ := sim_end s d g.rs
      have ho : m.op = [] := by
        have := s.op
        rw [show (NS.Ms.mk rs op cl).op = op from rfl, hb] at this
        exact (List.map_eq_nil_iff.mp this.symm)
      rw [ho] at e
      have hw : w = mkS acc := congrArg Prod.fst hw
      rw [hw] at e
      exact ⟨t, c, d', _, .fin e, rfl⟩
  | x :: L, acc, a, b, m, h, g, hb, s => by
    rw [pcs] at h ⊢
    split at h
    · rename_i hx
      rw [if_pos hx]
      obtain ⟨b', h, h2⟩ := h
      have g' := run_ag h2 g
      obtain ⟨w, hw⟩ : ∃ w, w = (mkS acc, mkS [x]) := ⟨_, rfl⟩
      rw [<- hw] at h ⊢
      cases h with
      | @opn rs op w =>
        have hw1 : w = mkS acc := congrArg Prod.fst hw
        obtain ⟨mo, rd, cnt, dp⟩ := m
        have hc := s.cl
        have ho := s.op
        cases rd with
        | some _ => cases hc
        | none =>
          obtain ⟨_, hd⟩ := g'.op (w, 0) (List.mem_append.mpr (.inr (by simp)))
          obtain ⟨t, c, d, r⟩ := sim_run L [] (m := ⟨mo ++ [(w, [])], none, cnt + 1, dp⟩) h2 g hb ⟨by
            show op ++ [(w, 0)] = _
            have ho : op = _ := ho
            rw [ho]; simp, rfl⟩
          exact ⟨t, c, d, _, .opn hd, r⟩
      | @mid rs rs' op cl o w c d =>
        obtain ⟨t, c1, d1, e⟩ := sim_end s d g'.rs
        obtain ⟨l', ⟨dd, ts⟩, e1, e2, e3⟩ := map_snoc s.op
        rw [e1] at e
        obtain ⟨e3, e4⟩ := Prod.mk.inj e3
        have e3 : o = dd := e3
        have e4 : c = ts.length := e4
        subst e3 e4
        obtain ⟨t', c', d', r⟩ := sim_run L [] (m := ⟨l' ++ [(o, ts ++ [t])], none, c1, d1⟩) h2 g hb ⟨by
          show op ++ [(o, ts.length + 1)] = _
          rw [e2]; simp, rfl⟩
        exact ⟨t', c', d', _, .comma e, r⟩
      | @cls rs rs' op cl o w c d =>
        obtain ⟨t, c1, d1, e⟩ := sim_end s d fun x hx => g'.rs x (List.mem_append.mpr (.inl hx))
        obtain ⟨l', ⟨dd, ts⟩, e1, e2, e3⟩ := map_snoc s.op
        rw [e1] at e
        obtain ⟨e3, e4⟩ := Prod.mk.inj e3
        have e3 : o = dd := e3
        have e4 : c = ts.length := e4
        subst e3 e4
        have h3 : ts.length + 1 <= 3 := by
          rcases g'.rs (o, ts.length + 1, op.length + 1) (List.mem_append.mpr (.inr (by simp))) with ⟨h, _⟩ | ⟨_, h, _⟩
          · exact absurd h (by simp)
          · exact h
        obtain ⟨t', c', d', r⟩ := sim_run L [] (m := ⟨l', some (.call o (ts ++ [t])), c1, d1⟩) h2 g hb ⟨e2, rfl⟩
        exact ⟨t', c', d', _, .close e h3, r⟩
      | fin d => exact absurd (mkS_inj' (congrArg Prod.snd hw : mkS [] = mkS [_])) (by simp)
    · rename_i hx
      rw [if_neg hx]
      exact sim_run L (acc ++ [x]) h g hb s
def Bad (z : Str) : Prop := ∀ st, NS.Run 44 ⟨[], [], false⟩ (NS.pcs 44 [] z.cps.toList) st -> st.op = [] -> ∃ x ∈ st.rs, ¬ rowG x
theorem bad_of {z : Str} (h : ¬ ∃ t, z = sh t /\ Wf t) : Bad z := fun st h1 h2 => by
  by_cases g : ∃ x ∈ st.rs, ¬ rowG x
  · exact g
  · exfalso
    rw [pcs_eq] at h1
    have ag : AG st := ⟨fun x hx => by
      by_cases e : rowG x
      · exact e
      · exact absurd ⟨x, hx, e⟩ g, fun x hx => by rw [h2] at hx; cases hx⟩
    obtain ⟨t, c, d, r⟩ := sim_run z.cps.toList [] h1 ag h2 (m := m0s) ⟨rfl, rfl⟩
    obtain ⟨e, w⟩ := sound r
    exact h ⟨t, str_ext e, w⟩
end K07
namespace K07
open PySem L2 TM
def nst (L : List Nat) : Int := (L.count 40 : Int) + (L.count 44 : Int)
def lev (L : List Nat) : Int := (L.count 40 : Int) - (L.count 41 : Int)
theorem nst_app (a b : List Nat) : nst (a ++ b) = nst a + nst b := by unfold nst; rw [List.count_append, List.count_append]; omega
theorem lev_app (a b : List Nat) : lev (a ++ b) = lev a + lev b := by unfold lev; rw [List.count_append, List.count_append]; omega
theorem nst_cons (c : Nat) (a : List Nat) : nst (c :: a) = nst [c] + nst a := nst_app [c] a
theorem lev_cons (c : Nat) (a : List Nat) : lev (c :: a) = lev [c] + lev a := lev_app [c] a
theorem nst_no {L : List Nat} (h : ∀ c ∈ L, stopB c = false) : nst L = 0 := by
  unfold nst
  rw [List.count_eq_zero.mpr fun m => by have := h 40 m; exact absurd this (by decide), List.count_eq_zero.mpr fun m => by have := h 44 m; exact absurd this (by decide)]
  rfl
theorem lev_no {L : List Nat} (h : ∀ c ∈ L, stopB c = false) : lev L = 0 := by
  unfold lev
  rw [List.count_eq_zero.mpr fun m => by have := h 40 m; exact absurd this (by decide), List.count_eq_zero.mpr fun m => by have := h 41 m; exact absurd this (by decide)]
  rfl
theorem lev_nil : lev [] = 0 := rfl
structure Lv (L : List Nat) (d : Nat) : Prop where
  z : lev L = 0
  up : ∀ p q, L = p ++ q -> lev p <= (d : Int)
theorem Lv.mono {L : List Nat} {d e : Nat} (h : Lv L d) (g : d <= e) : Lv L e := ⟨h.z, fun p q x => by have := h.up p q x; omega⟩
theorem Lv.app {A B : List Nat} {d : Nat} (a : Lv A d) (b : Lv B d) : Lv (A ++ B) d := by
  refine ⟨by rw [lev_app, a.z, b.z]; rfl, fun p q e => ?_⟩
  rcases List.append_eq_append_iff.mp e with ⟨x, h1, h2⟩ | ⟨x, h1, h2⟩
  · rw [h1, lev_app, a.z]
    have := b.up x q h2
    omega
  · exact a.up p x h1
theorem Lv.no {L : List Nat} (h : ∀ c ∈ L, stopB c = false) (d : Nat) : Lv L d := ⟨lev_no h, fun p q e => by
  rw [lev_no fun c hc => h c (by rw [e]; simp [hc])]
  omega⟩
theorem Lv.brk {L : List Nat} {d : Nat} (a : Lv L d) : Lv (40 :: (L ++ [41])) (d + 1) := by
  have e40 : lev [40] = 1 := rfl
  have e41 : lev [41] = -1 := rfl
  refine ⟨by rw [lev_cons, lev_app, a.z, e40, e41]; rfl, fun p q e => ?_⟩
  cases p with
  | nil => rw [lev_nil]; omega
  | cons x p =>
    obtain ⟨e0, e1⟩ := List.cons.inj e
    subst e0
    rw [lev_cons, e40]
    rcases List.append_eq_append_iff.mp e1 with ⟨x, h1, h2⟩ | ⟨x, h1, h2⟩
    · rw [h1, lev_app, a.z]
      cases x with
      | nil => rw [lev_nil]; omega
      | cons y r =>
        obtain ⟨e0, e5⟩ := List.cons.inj h2
        subst e0
        have : r = [] := (List.append_eq_nil_iff.mp e5.symm).1
        subst this
        rw [e41]; omega
    · have := a.up p x h1
      omega
def Lx (L : List Nat) (d : Nat) : Prop := ∃ p q, L = p ++ q /\ lev p = (d : Int)
theorem joined_cons2 (t u : Tm) (us : List Tm) : joined (t :: u :: us) = (sh t).cps.toList ++ 44 :: joined (u :: us) := by rw [joined]
mutual
theorem tm_cnt : ∀ t : Tm, Wf t -> nst (sh t).cps.toList + 1 = parts t /\ Lv (sh t).cps.toList (depth t - 1) /\ Lx (sh t).cps.toList (depth t - 1)
  | .num n, w => lf_cnt (t := .num n) trivial w
  | .text z, w => lf_cnt (t := .text z) trivial w
  | .row, w => lf_cnt (t := .row) trivial w
  | .mark, w => lf_cnt (t := .mark) trivial w
  | .val k z, w => lf_cnt (t := .val k z) trivial w
  | .call d ts, w => by
    unfold Wf at w
    obtain ⟨hd, hn, _, hw⟩ := w
    obtain ⟨a, b, p, q, e, l⟩ := tms_cnt ts hn hw
    have nd := deed_stop d hd
    have e40 : lev [40] = 1 := rfl
    rw [call_list, parts, depth]
    refine ⟨?_, ?_, d.cps.toList ++ 40 :: p, q ++ [41], by rw [e]; simp, ?_⟩
    · rw [nst_app, nst_no nd, nst_cons, nst_app, show nst [40] = 1 from rfl, show nst [41] = 0 from rfl]
      omega
    · have := (Lv.no nd (depths ts - 1 + 1)).app b.brk
      refine this.mono ?_
      have : 1 <= depths ts := by
        obtain ⟨t, _, e⟩ := depths_is hn
        rw [<- e]; exact depth_pos t
      omega
    · rw [lev_app, lev_no nd, lev_cons, e40, l]
      have : 1 <= depths ts := by
        obtain ⟨t, _, e⟩ := depths_is hn
        rw [<- e]; exact depth_pos t
      omega
theorem tms_cnt : ∀ ts : List Tm, ts ≠ [] -> Wfs ts -> nst (joined ts) + 1 = partss ts /\ Lv (joined ts) (depths ts - 1) /\ Lx (joined ts) (depths ts - 1)
  | [], h, _ => absurd rfl h
  | [t], _, w => by
    unfold Wfs at w
    have := tm_cnt t w.1
    rw [joined, partss, partss, depths, depths]
    rw [Nat.max_eq_left (Nat.zero_le _), Int.add_zero]
    exact this
  | t :: u :: us, _, w => by
    unfold Wfs at w
    obtain ⟨a1, a2, p1, q1, e1, l1⟩ := tm_cnt t w.1
    obtain ⟨b1, b2, p2, q2, e2, l2⟩ := tms_cnt (u :: us) (by simp) w.2
    rw [joined_cons2, partss, depths]
    have d1 := depth_pos t
    have e44 : lev [44] = 0 := rfl
    refine ⟨?_, ?_, ?_⟩
    · rw [nst_app, nst_cons, show nst [44] = 1 from rfl]
      omega
    · have c : Lv [44] (max (depth t) (depths (u :: us)) - 1) := ⟨rfl, fun p q e => by
        cases p with
        | nil => rw [lev_nil]; omega
        | cons x p =>
          obtain ⟨e0, e5⟩ := List.cons.inj e
          subst e0
          have : p = [] := (List.append_eq_nil_iff.mp e5.symm).1
          subst this
          rw [e44]; omega⟩
      have := (a2.mono (by omega)).app (c.app (b2.mono (e := max (depth t) (depths (u :: us)) - 1) (by omega)))
      exact this
    · by_cases h : depths (u :: us) <= depth t
      · refine ⟨p1, q1 ++ 44 :: joined (u :: us), by rw [e1]; simp, ?_⟩
        rw [l1, Nat.max_eq_left h]
      · refine ⟨(sh t).cps.toList ++ 44 :: p2, q2, by rw [e2]; simp, ?_⟩
        rw [lev_app, a2.z, lev_cons, e44, l2, Nat.max_eq_right (by omega)]
        omega
theorem lf_cnt : ∀ {t : Tm}, Leaf t -> Wf t -> nst (sh t).cps.toList + 1 = parts t /\ Lv (sh t).cps.toList (depth t - 1) /\ Lx (sh t).cps.toList (depth t - 1) := fun {t} hl w => by
  have h := leaf_stop hl w
  rw [parts_leaf hl, depth_leaf hl]
  exact ⟨by rw [nst_no h]; rfl, Lv.no h _, [], _, rfl, rfl⟩
end
theorem small_lev {n : List Nat} (h : n.length <= 1) : -1 <= lev n /\ lev n <= 1 /\ 0 <= nst n /\ nst n <= 1 := by
  match n, h with
  | [], _ => exact ⟨by decide, by decide, by decide, by decide⟩
  | [c], _ =>
    unfold lev nst
    simp only [List.count_singleton]
    by_cases h1 : c = 40
    · subst h1; decide
    · by_cases h2 : c = 41
      · subst h2; decide
      · by_cases h3 : c = 44
        · subst h3; decide
        · simp [h1, h2, h3]
theorem edit_ok {t u : Tm} {A B m n : List Nat} (wt : Wf t) (wu : Wf u) (e1 : (sh t).cps.toList = A ++ (m ++ B)) (e2 : (sh u).cps.toList = A ++ (n ++ B)) (hm : m.length <= 1) (hn : n.length <= 1) (hp : parts t <= 28) (hd : depth t <= 4) : parts u <= 30 /\ depth u <= 6 := by
  obtain ⟨a1, a2, _⟩ := tm_cnt t wt
  obtain ⟨b1, _, p, q, e, l⟩ := tm_cnt u wu
  have s1 := small_lev hm
  have s2 := small_lev hn
  refine ⟨?_, ?_⟩
  · rw [e1, nst_app, nst_app] at a1
    rw [e2, nst_app, nst_app] at b1
    omega
  · have key : lev p <= (depth t : Int) - 1 + 2 := by
      have dt := depth_pos t
      rw [e2] at e
      have A0 : lev A <= (depth t - 1 : Nat) := a2.up A (m ++ B) e1
      rcases List.append_eq_append_iff.mp e with ⟨x, h1, h2⟩ | ⟨x, h1, h2⟩
      · rw [h1, lev_app]
        rcases List.append_eq_append_iff.mp h2 with ⟨y, h3, h4⟩ | ⟨y, h3, h4⟩
        · rw [h3, lev_app]
          have := a2.up (A ++ (m ++ y)) q (by rw [e1, h4]; simp)
          rw [lev_app, lev_app] at this
          omega
        · have : x.length <= 1 := by rw [h3, List.length_append] at hn; omega
          have s3 := small_lev this
          omega
      · have := a2.up p (x ++ (m ++ B)) (by rw [e1, h1]; simp)
        omega
    have du := depth_pos u
    omega
end K07
namespace K07
open PySem L2 TM
theorem fig1 {c : Nat} (h1 : 48 <= c) (h2 : c <= 57) : (Nat.toDigits 10 (c - 48)).map Char.toNat = [c] := by
  obtain ⟨k, rfl⟩ := Nat.exists_eq_add_of_le h1
  have : k = 0 \/ k = 1 \/ k = 2 \/ k = 3 \/ k = 4 \/ k = 5 \/ k = 6 \/ k = 7 \/ k = 8 \/ k = 9 := by omega
  rcases this with rfl | rfl | rfl | rfl | rfl | rfl | rfl | rfl | rfl | rfl <;> decide
theorem snoc_ind {P : List Nat -> Prop} (h0 : P []) (hs : ∀ v c, P v -> P (v ++ [c])) : ∀ u, P u := fun u => by
  have : ∀ w : List Nat, P w.reverse := fun w => by
    induction w with
    | nil => exact h0
    | cons c w ih => rw [List.reverse_cons]; exact hs _ _ ih
  have := this u.reverse
  rwa [List.reverse_reverse] at this
theorem dig_back : ∀ u : List Nat, u ≠ [] -> (∀ c ∈ u, 48 <= c /\ c <= 57) -> (u.head? = some 48 -> u = [48]) -> (Nat.toDigits 10 (NumText.digitsVal u)).map Char.toNat = u := by
  refine snoc_ind (fun h => absurd rfl h) fun v c ih _ hf hh => ?_
  obtain ⟨c1, c2⟩ := hf c (by simp)
  rw [NumText.digitsVal_snoc]
  by_cases hv : v = []
  · subst hv
    have : NumText.digitsVal [] * 10 + (c - 48) = c - 48 := by show 0 * 10 + _ = _; omega
    rw [this]
    exact fig1 c1 c2
  · have hn : v.head? ≠ some 48 := fun e => by
      have := hh (by rw [head_app hv]; exact e)
      have l := congrArg List.length this
      rw [List.length_append] at l
      have : v.length = 0 := by simpa using l
      exact hv (List.length_eq_zero_iff.mp this)
    have e := ih hv (fun x hx => hf x (by simp [hx])) fun z => absurd z hn
    have hp : 0 < NumText.digitsVal v := by
      rcases Nat.eq_zero_or_pos (NumText.digitsVal v) with h | h
      · rw [h] at e
        have : v = [48] := by rw [<- e]; decide
        exact absurd (by rw [this]; rfl) hn
      · exact h
    have t := Nat.toDigits_append_toDigits (b := 10) (n := NumText.digitsVal v) (d := c - 48) (by decide) hp (by omega)
    rw [Nat.mul_comm] at t
    rw [<- t, List.map_append, e, fig1 c1 c2]
theorem dig_lt : ∀ u : List Nat, (∀ c ∈ u, 48 <= c /\ c <= 57) -> NumText.digitsVal u < 10 ^ u.length := by
  refine snoc_ind (fun _ => by decide) fun v c ih hf => ?_
  have h := ih fun x hx => hf x (by simp [hx])
  obtain ⟨c1, c2⟩ := hf c (by simp)
  rw [NumText.digitsVal_snoc, List.length_append, List.length_singleton, Nat.pow_succ]
  omega
theorem dig_bound {u : List Nat} (hf : ∀ c ∈ u, 48 <= c /\ c <= 57) (hl : u.length <= 18) : (NumText.digitsVal u : Int) < 1000000000000000000 := by
  have h1 := dig_lt u hf
  have h2 : 10 ^ u.length <= 10 ^ 18 := Nat.pow_le_pow_right (by decide) hl
  have h3 : (10 : Nat) ^ 18 = 1000000000000000000 := by decide
  omega
theorem fig_iff {c : Nat} : figOk c = true ↔ 48 <= c /\ c <= 57 := by
  unfold figOk
  rw [Bool.and_eq_true, decide_eq_true_eq, decide_eq_true_eq]
theorem dig_sh {u : List Nat} (hn : u ≠ []) (hf : ∀ c ∈ u, 48 <= c /\ c <= 57) (hh : u.head? = some 48 -> u = [48]) : (sh (.num (NumText.digitsVal u))).cps.toList = u := by
  unfold sh
  rw [num_list]
  exact dig_back u hn hf hh
theorem dig_num {n : Int} (h0 : 0 <= n) (h1 : n < 1000000000000000000) : (NumText.digitsVal (sh (.num n)).cps.toList : Int) = n := by
  have l := num_len h0 h1
  have a := num_reads' h0 (by rw [len_list]; omega)
  have b := intText_digits (x := Str.ofString (toString n)) (fun c hc => fig_iff.mp (num_figs h0 c hc)) l.1 (by rw [len_list]; omega)
  rw [a] at b
  unfold sh
  exact (Option.some.inj b).symm
def wr (acc : List Nat) : List Nat -> List (List Nat)
  | [] => [acc]
  | c :: r => if sgnOk c = true then wr (acc ++ [c]) r else acc :: [c] :: wr [] r
def sp : List Nat -> List (List Nat)
  | [] => []
  | c :: r => [c] :: wr [] r
def Sep (R : List Nat) : Prop := ∀ x r, R = x :: r -> sgnOk x = false
theorem sep_nil : Sep [] := fun _ _ h => nomatch h
theorem wr_word {u : List Nat} : ∀ {acc R : List Nat}, (∀ c ∈ u, sgnOk c = true) -> Sep R -> wr acc (u ++ R) = (acc ++ u) :: sp R := by
  induction u with
  | nil =>
    intro acc R _ hR
    cases R with
    | nil => simp [wr, sp]
    | cons x r => rw [List.nil_append, wr, if_neg (by rw [hR x r rfl]; decide), List.append_nil, sp]
  | cons c u ih =>
    intro acc R hu hR
    rw [List.cons_append, wr, if_pos (hu c (by simp)), ih (fun d hd => hu d (by simp [hd])) hR]
    simp
theorem wr_nil {u R : List Nat} (hu : ∀ c ∈ u, sgnOk c = true) (hR : Sep R) : wr [] (u ++ R) = u :: sp R := by rw [wr_word hu hR]; simp
theorem span : ∀ R : List Nat, ∃ u R1, R = u ++ R1 /\ (∀ c ∈ u, sgnOk c = true) /\ Sep R1
  | [] => ⟨[], [], rfl, (fun _ h => nomatch h), sep_nil⟩
  | c :: R => by
    by_cases h : sgnOk c = true
    · obtain ⟨u, R1, e, h1, h2⟩ := span R
      refine ⟨c :: u, R1, by rw [e]; rfl, fun d hd => ?_, h2⟩
      rcases List.mem_cons.mp hd with rfl | hd
      · exact h
      · exact h1 d hd
    · exact ⟨[], c :: R, rfl, (fun _ h => nomatch h), fun x r e => by cases e; simpa using h⟩
theorem span_uniq : ∀ {u v R S : List Nat}, u ++ R = v ++ S -> (∀ c ∈ u, sgnOk c = true) -> (∀ c ∈ v, sgnOk c = true) -> Sep R -> Sep S -> u = v /\ R = S
  | [], [], _, _, h, _, _, _, _ => ⟨rfl, h⟩
  | [], d :: v, R, S, h, _, hv, hR, _ => by
    have := hR d (v ++ S) h
    rw [hv d (by simp)] at this
    cases this
  | c :: u, [], R, S, h, hu, _, _, hS => by
    have := hS c (u ++ R) h.symm
    rw [hu c (by simp)] at this
    cases this
  | c :: u, d :: v, R, S, h, hu, hv, hR, hS => by
    obtain ⟨e0, e1⟩ := List.cons.inj h
    subst e0
    obtain ⟨rfl, rfl⟩ := span_uniq e1 (fun x hx => hu x (by simp [hx])) (fun x hx => hv x (by simp [hx])) hR hS
    exact ⟨rfl, rfl⟩
theorem tkw {R v : List Nat} {l : List (List Nat)} {n : Nat} (h : (wr [] R).take (n + 1) = v :: l) : ∃ R1, R = v ++ R1 /\ (∀ c ∈ v, sgnOk c = true) /\ Sep R1 /\ (sp R1).take n = l := by
  obtain ⟨u, R1, e, hu, hR⟩ := span R
  rw [e, wr_nil hu hR, List.take_succ_cons] at h
  obtain ⟨e0, e1⟩ := List.cons.inj h
  subst e0
  exact ⟨R1, e, hu, hR, e1⟩
theorem tks {R v : List Nat} {l : List (List Nat)} {n : Nat} (h : (sp R).take (n + 1) = v :: l) : ∃ c r, R = c :: r /\ v = [c] /\ (wr [] r).take n = l := by
  cases R with
  | nil => simp [sp] at h
  | cons c r =>
    rw [sp, List.take_succ_cons] at h
    obtain ⟨h0, h⟩ := List.cons.inj h
    exact ⟨c, r, rfl, h0.symm, h⟩
def markL : List Nat := [109, 97, 114, 107]
def nmOf (ah : List (List Nat)) : List Nat := ah.getD 1 []
def cVal (u nm : List Nat) : Prop := (u = [48] \/ u = [49] \/ u = [50] \/ u = [51]) /\ (1 <= nm.length /\ nm.length <= 8) /\ ∀ c ∈ nm, letOk c = true
def cNo (u : List Nat) : Prop := u = [] \/ 18 < u.length \/ (¬ ∀ c ∈ u, figOk c = true) \/ (u.head? = some 48 /\ u ≠ [48])
open Classical in
noncomputable def oneR (u : List Nat) (ah : List (List Nat)) : Option (Tm × Nat) :=
  if u = [] /\ ah = [[91], [], [93], []] then some (.row, 5)
  else if u = [] /\ ah.take 1 = [[34]] /\ ah.drop 2 = [[34], []] /\ (nmOf ah).length <= 40 then some (.text (mkS (nmOf ah)), 5)
  else if ah.take 1 = [[46]] then (if cVal u (nmOf ah) then some (.val ((u.headD 48 - 48 : Nat) : Int) (mkS (nmOf ah)), 3) else none)
  else if u = markL then some (.mark, 1)
  else if cNo u then none
  else some (.num (NumText.digitsVal u), 1)
theorem let_sgn {c : Nat} (h : letOk c = true) : sgnOk c = true := by unfold sgnOk; rw [h]; rfl
theorem fig_sgn {c : Nat} (h : figOk c = true) : sgnOk c = true := by unfold sgnOk; rw [h, Bool.or_true]
structure LfAt (R : List Nat) (t : Tm) (R' : List Nat) : Prop where
  e : R = (sh t).cps.toList ++ R'
  lf : Leaf t
  wf : Wf t
theorem tk1 {R : List Nat} {c : Nat} (h : ((sp R).take 4).take 1 = [[c]]) : ∃ r, R = c :: r := by
  rw [List.take_take] at h
  obtain ⟨d, r, e, h1, _⟩ := tks (n := 0) h
  cases h1
  exact ⟨r, e⟩
theorem oneR_some {u R1 : List Nat} {t : Tm} {n : Nat} (hu : ∀ c ∈ u, sgnOk c = true) (hR : Sep R1) (h : oneR u ((sp R1).take 4) = some (t, n)) : ∃ R', LfAt (u ++ R1) t R' /\ Sep R' /\ (u :: sp R1).drop n = sp R' := by
  unfold oneR at h
  split at h
  · rename_i hc
    obtain ⟨rfl, ha⟩ := hc
    cases h
    obtain ⟨c, r, rfl, e1, h1⟩ := tks (n := 3) ha
    obtain ⟨R2, rfl, s1, s2, h2⟩ := tkw (n := 2) h1
    obtain ⟨c2, r2, rfl, e2, h3⟩ := tks (n := 1) h2
    obtain ⟨R3, q3, s3, s4, h4⟩ := tkw (n := 0) h3
    have q3 : r2 = R3 := q3
    subst q3
    cases e1
    cases e2
    refine ⟨r2, ⟨by unfold sh; rfl, trivial, by unfold Wf; trivial⟩, s4, ?_⟩
    have w1 : wr [] (93 :: r2) = [] :: sp (93 :: r2) := wr_nil (u := []) (fun _ h => nomatch h) s2
    have w2 : wr [] r2 = [] :: sp r2 := wr_nil (u := []) (fun _ h => nomatch h) s4
    rw [sp, w1, sp, w2]
    rfl
  split at h
  · rename_i hc
    obtain ⟨rfl, h1, h2, h3⟩ := hc
    cases h
    obtain ⟨r, rfl⟩ := tk1 h1
    obtain ⟨v, R2, rfl, s1, s2⟩ := span r
    have w1 := wr_nil s1 s2
    rw [sp, w1] at h2 h3
    have e0 : nmOf (([34] :: v :: sp R2).take 4) = v := rfl
    rw [e0] at h3
    have h2' : (sp R2).take 2 = [[34], []] := h2
    obtain ⟨c2, r2, rfl, e2, h4⟩ := tks (n := 1) h2'
    cases e2
    obtain ⟨R3, q3, s3, s4, h5⟩ := tkw (n := 0) h4
    have q3 : r2 = R3 := q3
    subst q3
    refine ⟨r2, ⟨?_, trivial, ?_⟩, s4, ?_⟩
    · rw [sp, w1, e0]
      unfold sh
      rw [app_list, app_list, q_list, mk_list]
      simp
    · rw [sp, w1, e0]
      unfold Wf
      rw [mk_list]
      exact ⟨h3, s1⟩
    · have w2 : wr [] r2 = [] :: sp r2 := wr_nil (u := []) (fun _ h => nomatch h) s4
      rw [sp, w1, sp, w2]
      rfl
  split at h
  · rename_i hc
    split at h
    · rename_i hv
      cases h
      obtain ⟨r, rfl⟩ := tk1 hc
      obtain ⟨v, R2, rfl, s1, s2⟩ := span r
      have w1 := wr_nil s1 s2
      have e0 : nmOf ((sp (46 :: (v ++ R2))).take 4) = v := by rw [sp, w1]; rfl
      rw [e0] at hv ⊢
      obtain ⟨h1, h2, h3⟩ := hv
      refine ⟨R2, ⟨?_, trivial, ?_⟩, s2, by rw [sp, w1]; rfl⟩
      · have ek : (Str.ofString (toString (((u.headD 48 - 48 : Nat)) : Int))).cps.toList = u := by
          rcases h1 with rfl | rfl | rfl | rfl <;> decide +kernel
        unfold sh
        rw [app_list, app_list, dot_list, mk_list, ek]
        simp
      · unfold Wf
        rw [mk_list]
        refine ⟨?_, fun z => by rw [z] at h2; exact absurd h2.1 (by decide), h2.2, h3⟩
        rcases h1 with rfl | rfl | rfl | rfl <;> decide
    · cases h
  split at h
  · rename_i hm
    cases h
    exact ⟨R1, ⟨by rw [hm]; unfold sh; rfl, trivial, by unfold Wf; trivial⟩, hR, rfl⟩
  split at h
  · cases h
  · rename_i hn
    cases h
    have h1 : u ≠ [] := fun z => hn (.inl z)
    have h2 : u.length <= 18 := Nat.le_of_not_lt fun z => hn (.inr (.inl z))
    have h3 : ∀ c ∈ u, figOk c = true := by
      by_cases g : ∀ c ∈ u, figOk c = true
      · exact g
      · exact absurd (.inr (.inr (.inl g))) hn
    have h4 : u.head? = some 48 -> u = [48] := fun z => by
      by_cases g : u = [48]
      · exact g
      · exact absurd (.inr (.inr (.inr ⟨z, g⟩))) hn
    have hf : ∀ c ∈ u, 48 <= c /\ c <= 57 := fun c hc => fig_iff.mp (h3 c hc)
    refine ⟨R1, ⟨by rw [dig_sh h1 hf h4], trivial, ?_⟩, hR, rfl⟩
    unfold Wf
    exact ⟨by omega, dig_bound hf h2⟩
def StopHd (R : List Nat) : Prop := ∀ x r, R = x :: r -> stopB x = true
theorem stop_no {c : Nat} (h : stopB c = true) : sgnOk c = false := by
  cases e : sgnOk c with
  | false => rfl
  | true => rw [sgn_stop e] at h; cases h
theorem StopHd.sep {R : List Nat} (h : StopHd R) : Sep R := fun x r e => stop_no (h x r e)
theorem no_tk {R : List Nat} (h : StopHd R) {c : Nat} (hc : stopB c = false) : ¬ ((sp R).take 4).take 1 = [[c]] := fun e => by
  obtain ⟨r, rfl⟩ := tk1 e
  rw [h c r rfl] at hc
  cases hc
theorem fig_word {u : List Nat} (h : ∀ c ∈ u, figOk c = true) : u ≠ markL := fun e => by
  have := h 109 (by rw [e]; decide)
  revert this
  decide
theorem oneR_leaf {u R1 R' : List Nat} {t : Tm} (hu : ∀ c ∈ u, sgnOk c = true) (hR : Sep R1) (h : LfAt (u ++ R1) t R') (hs : StopHd R') : ∃ n, oneR u ((sp R1).take 4) = some (t, n) /\ (u :: sp R1).drop n = sp R' := by
  obtain ⟨e, lf, wf⟩ := h
  have hs' := hs.sep
  cases t with
  | call _ _ => cases lf
  | num n =>
    unfold Wf at wf
    have fg := num_figs wf.1
    have fg' : ∀ c ∈ (sh (.num n)).cps.toList, figOk c = true := by unfold sh; exact fg
    obtain ⟨rfl, rfl⟩ := span_uniq e hu (fun c hc => fig_sgn (fg' c hc)) hR hs'
    have l := num_len wf.1 wf.2
    have l' : (sh (.num n)).cps.toList ≠ [] /\ (sh (.num n)).cps.toList.length <= 18 := by unfold sh; exact l
    refine ⟨1, ?_, rfl⟩
    unfold oneR
    rw [if_neg (fun z => l'.1 z.1), if_neg (fun z => l'.1 z.1), if_neg (no_tk hs (by decide)), if_neg (fig_word fg'), if_neg ?_, dig_num wf.1 wf.2]
    rintro (z | z | z | ⟨z, z2⟩)
    · exact l'.1 z
    · omega
    · exact z fg'
    · have : n = 0 := num_head wf.1 (by unfold sh at z; exact z)
      subst this
      exact z2 (by unfold sh; decide +kernel)
  | text z =>
    unfold Wf at wf
    unfold sh at e
    rw [app_list, app_list, q_list] at e
    have e2 : u ++ R1 = [] ++ 34 :: (z.cps.toList ++ 34 :: R') := by rw [e]; simp
    have s34 : ∀ r, Sep (34 :: r) := fun r x y e => by cases e; decide
    obtain ⟨rfl, rfl⟩ := span_uniq e2 hu (fun _ h => nomatch h) hR (s34 _)
    have w1 : wr [] (z.cps.toList ++ 34 :: R') = z.cps.toList :: sp (34 :: R') := wr_nil wf.2 (s34 _)
    have w2 : wr [] ([] ++ R') = [] :: sp R' := wr_nil (fun _ h => nomatch h) hs'
    have w2 : wr [] R' = [] :: sp R' := w2
    have e3 : sp (34 :: (z.cps.toList ++ 34 :: R')) = [34] :: z.cps.toList :: [34] :: [] :: sp R' := by rw [sp, w1, sp, w2]
    refine ⟨5, ?_, by rw [e3]; rfl⟩
    rw [e3]
    unfold oneR
    have ez : mkS z.cps.toList = z := (mk_eq rfl).symm
    rw [if_neg (fun z => absurd (List.cons.inj z.2).1 (by decide)), if_pos ⟨rfl, rfl, rfl, wf.1⟩]
    show some (Tm.text (mkS z.cps.toList), 5) = _
    rw [ez]
  | row =>
    unfold sh at e
    have e2 : u ++ R1 = [] ++ 91 :: 93 :: R' := by rw [e]; rfl
    have s91 : ∀ r, Sep (91 :: r) := fun r x y e => by cases e; decide
    have s93 : ∀ r, Sep (93 :: r) := fun r x y e => by cases e; decide
    obtain ⟨rfl, rfl⟩ := span_uniq e2 hu (fun _ h => nomatch h) hR (s91 _)
    have w1 : wr [] ([] ++ 93 :: R') = [] :: sp (93 :: R') := wr_nil (fun _ h => nomatch h) (s93 _)
    have w1 : wr [] (93 :: R') = [] :: sp (93 :: R') := w1
    have w2 : wr [] ([] ++ R') = [] :: sp R' := wr_nil (fun _ h => nomatch h) hs'
    have w2 : wr [] R' = [] :: sp R' := w2
    have e3 : sp (91 :: 93 :: R') = [91] :: [] :: [93] :: [] :: sp R' := by rw [sp, w1, sp, w2]
    refine ⟨5, ?_, by rw [e3]; rfl⟩
    rw [e3]
    unfold oneR
    rw [if_pos ⟨rfl, rfl⟩]
  | mark =>
    unfold sh at e
    have e2 : u ++ R1 = markL ++ R' := by rw [e]; rfl
    obtain ⟨rfl, rfl⟩ := span_uniq e2 hu (by decide) hR hs'
    refine ⟨1, ?_, rfl⟩
    unfold oneR
    rw [if_neg (fun z => absurd z.1 (by decide)), if_neg (fun z => absurd z.1 (by decide)), if_neg (no_tk hs (by decide)), if_pos rfl]
  | val k z =>
    unfold Wf at wf
    obtain ⟨wk, w1, w2, w3⟩ := wf
    unfold sh at e
    rw [app_list, app_list, dot_list] at e
    obtain ⟨d, ed, ek, d1⟩ : ∃ d : Nat, (Str.ofString (toString k)).cps.toList = [d] /\ k = ((d - 48 : Nat) : Int) /\ (d = 48 \/ d = 49 \/ d = 50 \/ d = 51) := by
      rcases wk with rfl | rfl | rfl | rfl
      · exact ⟨48, by decide +kernel, by decide, by decide⟩
      · exact ⟨49, by decide +kernel, by decide, by decide⟩
      · exact ⟨50, by decide +kernel, by decide, by decide⟩
      · exact ⟨51, by decide +kernel, by decide, by decide⟩
    rw [ed] at e
    have e2 : u ++ R1 = [d] ++ 46 :: (z.cps.toList ++ R') := by rw [e]; simp
    have s46 : ∀ r, Sep (46 :: r) := fun r x y e => by cases e; decide
    have sd : ∀ c ∈ [d], sgnOk c = true := fun c hc => by
      rw [List.mem_singleton.mp hc]
      rcases d1 with rfl | rfl | rfl | rfl <;> decide
    obtain ⟨rfl, rfl⟩ := span_uniq e2 hu sd hR (s46 _)
    have w4 : wr [] (z.cps.toList ++ R') = z.cps.toList :: sp R' := wr_nil (fun c hc => let_sgn (w3 c hc)) hs'
    have e3 : sp (46 :: (z.cps.toList ++ R')) = [46] :: z.cps.toList :: sp R' := by rw [sp, w4]
    refine ⟨3, ?_, by rw [e3]; rfl⟩
    rw [e3]
    unfold oneR
    have ez : mkS z.cps.toList = z := (mk_eq rfl).symm
    have en : nmOf (List.take 4 ([46] :: z.cps.toList :: sp R')) = z.cps.toList := rfl
    have cv : cVal [d] z.cps.toList := ⟨by rcases d1 with rfl | rfl | rfl | rfl <;> simp, ⟨List.length_pos_iff.mpr w1, w2⟩, w3⟩
    rw [if_neg (fun z => absurd z.1 (by simp)), if_neg (fun z => absurd z.1 (by simp)), if_pos (by rfl), en, if_pos cv, ez, ek]
    rfl
end K07
namespace K07
open PySem L2 TM
theorem to_stop : ∀ R : List Nat, ∃ w R2, R = w ++ R2 /\ (∀ c ∈ w, stopB c = false) /\ StopHd R2
  | [] => ⟨[], [], rfl, (fun _ h => nomatch h), fun _ _ h => nomatch h⟩
  | c :: R => by
    by_cases h : stopB c = true
    · exact ⟨[], c :: R, rfl, (fun _ h => nomatch h), fun x r e => by cases e; exact h⟩
    · obtain ⟨w, R2, e, h1, h2⟩ := to_stop R
      refine ⟨c :: w, R2, by rw [e]; rfl, fun d hd => ?_, h2⟩
      rcases List.mem_cons.mp hd with rfl | hd
      · simpa using h
      · exact h1 d hd
theorem stop_uniq : ∀ {u v R S : List Nat}, u ++ R = v ++ S -> (∀ c ∈ u, stopB c = false) -> (∀ c ∈ v, stopB c = false) -> StopHd R -> StopHd S -> u = v /\ R = S
  | [], [], _, _, h, _, _, _, _ => ⟨rfl, h⟩
  | [], d :: v, R, S, h, _, hv, hR, _ => by
    have := hR d (v ++ S) h
    rw [hv d (by simp)] at this
    cases this
  | c :: u, [], R, S, h, hu, _, _, hS => by
    have := hS c (u ++ R) h.symm
    rw [hu c (by simp)] at this
    cases this
  | c :: u, d :: v, R, S, h, hu, hv, hR, hS => by
    obtain ⟨e0, e1⟩ := List.cons.inj h
    subst e0
    obtain ⟨rfl, rfl⟩ := stop_uniq e1 (fun x hx => hu x (by simp [hx])) (fun x hx => hv x (by simp [hx])) hR hS
    exact ⟨rfl, rfl⟩
theorem stop_hd {c : Nat} {r : List Nat} (h : stopB c = true) : StopHd (c :: r) := fun x y e => by cases e; exact h
theorem endd_inv {op : List (Str × List Tm)} {c dp : Int} {z : Str} {m1 : Ms} (h : Endd ⟨op, none, c, dp⟩ z m1) : ∃ t, Leaf t /\ Wf t /\ z = sh t /\ m1 = ⟨op, some t, c + 1, max dp ((op.length : Int) + 1)⟩ := by
  generalize e : (⟨op, none, c, dp⟩ : Ms) = m at h
  cases h with
  | leaf hl hw => cases e; exact ⟨_, hl, hw, rfl, rfl⟩
  | again => cases e
theorem endd_inv2 {op : List (Str × List Tm)} {c dp : Int} {t : Tm} {z : Str} {m1 : Ms} (h : Endd ⟨op, some t, c, dp⟩ z m1) : z = mkS [] /\ m1 = ⟨op, some t, c, dp⟩ := by
  generalize e : (⟨op, some t, c, dp⟩ : Ms) = m at h
  cases h with
  | leaf hl hw => cases e
  | again => cases e; exact ⟨rfl, rfl⟩
theorem step_cases {m m1 : Ms} {z s : Str} (h : Step m (z, s) m1) : (s = mkS [40] /\ z ∈ deeds /\ m.rd = none /\ m1 = ⟨m.op ++ [(z, [])], none, m.cnt + 1, m.dp⟩) \/ (s = mkS [] /\ Endd m z m1) \/
    (s = mkS [44] /\ ∃ op d ts t c dp, Endd m z ⟨op ++ [(d, ts)], some t, c, dp⟩ /\ m1 = ⟨op ++ [(d, ts ++ [t])], none, c, dp⟩) \/
    (s = mkS [41] /\ ∃ op d ts t c dp, Endd m z ⟨op ++ [(d, ts)], some t, c, dp⟩ /\ ts.length + 1 <= 3 /\ m1 = ⟨op, some (.call d (ts ++ [t])), c, dp⟩) := by
  cases h with
  | opn hd => exact .inl ⟨rfl, hd, rfl, rfl⟩
  | fin he => exact .inr (.inl ⟨rfl, he⟩)
  | comma he => exact .inr (.inr (.inl ⟨rfl, _, _, _, _, _, _, he, rfl⟩))
  | close he h3 => exact .inr (.inr (.inr ⟨rfl, _, _, _, _, _, _, he, h3, rfl⟩))
theorem pcs_word {w R : List Nat} (h : ∀ c ∈ w, stopB c = false) : pcs [] (w ++ R) = pcs w R := by rw [pcs_app w [] R h]; rfl
theorem pcs_at {w r : List Nat} {c : Nat} (h : stopB c = true) : pcs w (c :: r) = (mkS w, mkS [c]) :: pcs [] r := by rw [pcs, if_pos h]
theorem goes_of {m fin : Ms} {w R : List Nat} {op : List (Str × List Tm)} {t : Tm} {c dp : Int} (hR : StopHd R) (hm : ∀ m1, Endd m (mkS w) m1 -> m1 = ⟨op, some t, c, dp⟩) (h40 : ∀ r, R = 40 :: r -> mkS w ∈ deeds -> m.rd = none -> False) (h : Run m (pcs w R) fin) : Goes op t c dp R fin := by
  cases R with
  | nil =>
    obtain ⟨m1, h1, h2⟩ := h
    have h2 : m1 = fin := h2
    subst h2
    rcases step_cases h1 with ⟨e, _⟩ | ⟨_, he⟩ | ⟨e, _⟩ | ⟨e, _⟩
    · exact absurd (mkS_inj' e) (by simp)
    · exact hm _ he
    · exact absurd (mkS_inj' e) (by simp)
    · exact absurd (mkS_inj' e) (by simp)
  | cons x r =>
    have hx := hR x r rfl
    rw [pcs_at hx] at h
    obtain ⟨m1, h1, h2⟩ := h
    rcases step_cases h1 with ⟨e, hd, hn, _⟩ | ⟨e, he⟩ | ⟨e, op', d, ts, t', c', dp', he, rfl⟩ | ⟨e, op', d, ts, t', c', dp', he, h3, rfl⟩
    · have : x = 40 := by have := mkS_inj' e; simpa using this
      subst this
      exact absurd (h40 r rfl hd hn) (fun z => z)
    · exact absurd (mkS_inj' e) (by simp)
    · have : x = 44 := by have := mkS_inj' e; simpa using this
      subst this
      have q := hm _ he
      cases q
      exact .inl ⟨rfl, _, _, _, rfl, h2⟩
    · have : x = 41 := by have := mkS_inj' e; simpa using this
      subst this
      have q := hm _ he
      cases q
      exact .inr ⟨rfl, _, _, _, rfl, h3, h2⟩
theorem mk_back (z : Str) : mkS z.cps.toList = z := (mk_eq rfl).symm
theorem goes_iff {op : List (Str × List Tm)} {t : Tm} {c dp : Int} {R : List Nat} {fin : Ms} : Run ⟨op, some t, c, dp⟩ (pcs [] R) fin ↔ Goes op t c dp R fin := by
  refine ⟨fun h => ?_, fun h => goes_run (z := mkS []) .again h⟩
  obtain ⟨w, R2, rfl, hw, hR⟩ := to_stop R
  rw [pcs_word hw] at h
  have key : w = [] := by
    cases R2 with
    | nil =>
      obtain ⟨m1, h1, _⟩ := h
      rcases step_cases h1 with ⟨_, _, e, _⟩ | ⟨_, he⟩ | ⟨_, _, _, _, _, _, _, he, _⟩ | ⟨_, _, _, _, _, _, _, he, _⟩
      · cases e
      · exact mkS_inj' (endd_inv2 he).1
      · exact mkS_inj' (endd_inv2 he).1
      · exact mkS_inj' (endd_inv2 he).1
    | cons x r =>
      rw [pcs_at (hR x r rfl)] at h
      obtain ⟨m1, h1, _⟩ := h
      rcases step_cases h1 with ⟨_, _, e, _⟩ | ⟨_, he⟩ | ⟨_, _, _, _, _, _, _, he, _⟩ | ⟨_, _, _, _, _, _, _, he, _⟩
      · cases e
      · exact mkS_inj' (endd_inv2 he).1
      · exact mkS_inj' (endd_inv2 he).1
      · exact mkS_inj' (endd_inv2 he).1
  subst key
  exact goes_of hR (fun m1 he => (endd_inv2 he).2) (fun r _ _ e => by cases e) h
theorem run_inv {op : List (Str × List Tm)} {c dp : Int} {R : List Nat} {fin : Ms} (h : Run ⟨op, none, c, dp⟩ (pcs [] R) fin) : (∃ d ∈ deeds, ∃ R', R = d.cps.toList ++ 40 :: R' /\ Run ⟨op ++ [(d, [])], none, c + 1, dp⟩ (pcs [] R') fin) \/
    ∃ t R', LfAt R t R' /\ StopHd R' /\ ∀ t2, LfAt R t2 R' -> Goes op t2 (c + 1) (max dp ((op.length : Int) + 1)) R' fin \/ t2 ≠ t := by
  obtain ⟨w, R2, rfl, hw, hR⟩ := to_stop R
  rw [pcs_word hw] at h
  have fin_ : ∀ t, Leaf t -> Wf t -> mkS w = sh t -> Goes op t (c + 1) (max dp ((op.length : Int) + 1)) R2 fin -> ∃ t R', LfAt (w ++ R2) t R' /\ StopHd R' /\ ∀ t2, LfAt (w ++ R2) t2 R' -> Goes op t2 (c + 1) (max dp ((op.length : Int) + 1)) R' fin \/ t2 ≠ t := fun t hl hwf e g => by
    refine ⟨t, R2, ⟨by rw [<- e, mk_list], hl, hwf⟩, hR, fun t2 _ => ?_⟩
    by_cases q : t2 = t
    · exact .inl (q ▸ g)
    · exact .inr q
  cases R2 with
  | nil =>
    obtain ⟨m1, h1, h2⟩ := h
    have h2 : m1 = fin := h2
    subst h2
    rcases step_cases h1 with ⟨e, _⟩ | ⟨_, he⟩ | ⟨e, _⟩ | ⟨e, _⟩
    · exact absurd (mkS_inj' e) (by simp)
    · obtain ⟨t, hl, hwf, e, q⟩ := endd_inv he
      exact .inr (fin_ t hl hwf e q)
    · exact absurd (mkS_inj' e) (by simp)
    · exact absurd (mkS_inj' e) (by simp)
  | cons x r =>
    have hx := hR x r rfl
    rw [pcs_at hx] at h
    obtain ⟨m1, h1, h2⟩ := h
    rcases step_cases h1 with ⟨e, hd, hn, rfl⟩ | ⟨e, he⟩ | ⟨e, op', d, ts, t', c', dp', he, rfl⟩ | ⟨e, op', d, ts, t', c', dp', he, h3, rfl⟩
    · have : x = 40 := by have := mkS_inj' e; simpa using this
      subst this
      exact .inl ⟨mkS w, hd, r, by rw [mk_list], h2⟩
    · exact absurd (mkS_inj' e) (by simp)
    · have : x = 44 := by have := mkS_inj' e; simpa using this
      subst this
      obtain ⟨t, hl, hwf, e, q⟩ := endd_inv he
      cases q
      exact .inr (fin_ _ hl hwf e (.inl ⟨rfl, _, _, _, rfl, h2⟩))
    · have : x = 41 := by have := mkS_inj' e; simpa using this
      subst this
      obtain ⟨t, hl, hwf, e, q⟩ := endd_inv he
      cases q
      exact .inr (fin_ _ hl hwf e (.inr ⟨rfl, _, _, _, rfl, h3, h2⟩))
theorem goes_stop {op : List (Str × List Tm)} {t : Tm} {c dp : Int} {R : List Nat} {fin : Ms} (h : Goes op t c dp R fin) : StopHd R := fun x r e => by
  subst e
  rcases h with ⟨rfl, _⟩ | ⟨rfl, _⟩ <;> decide
theorem deed_let : ∀ d ∈ deeds, ∀ c ∈ d.cps.toList, letOk c = true := by decide +kernel
theorem deed_sgn {d : Str} (h : d ∈ deeds) : ∀ c ∈ d.cps.toList, sgnOk c = true := fun c hc => let_sgn (deed_let d h c hc)
theorem sep40 {r : List Nat} : Sep (40 :: r) := fun x y e => by cases e; decide
theorem open_iff {d : Str} (hd : d ∈ deeds) {op : List (Str × List Tm)} {c dp : Int} {R' : List Nat} {fin : Ms} : Run ⟨op, none, c, dp⟩ (pcs [] (d.cps.toList ++ 40 :: R')) fin ↔ Run ⟨op ++ [(d, [])], none, c + 1, dp⟩ (pcs [] R') fin := by
  have hs : StopHd (40 :: R') := stop_hd (by decide)
  constructor
  · intro h
    rcases run_inv h with ⟨d', hd', R'', e, g⟩ | ⟨t, R2, lf, h2, g⟩
    · obtain ⟨e1, e2⟩ := stop_uniq e (deed_stop d hd) (deed_stop d' hd') hs (stop_hd (by decide))
      cases e2
      have := str_ext e1
      subst this
      exact g
    · obtain ⟨e1, e2⟩ := stop_uniq lf.e (deed_stop d hd) (leaf_stop lf.lf lf.wf) hs h2
      subst e2
      rcases g t lf with g | g
      · rcases g with ⟨z, _⟩ | ⟨z, _⟩ <;> exact absurd z (by decide)
      · exact absurd rfl g
  · intro h
    rw [pcs_word (deed_stop d hd), pcs_at (by decide), mk_back]
    exact ⟨_, .opn hd, h⟩
theorem leaf_iff {u R1 : List Nat} {t : Tm} {n : Nat} (hu : ∀ c ∈ u, sgnOk c = true) (hR : Sep R1) (hno : ∀ d ∈ deeds, ∀ r, u = d.cps.toList -> R1 = 40 :: r -> False) (h : oneR u ((sp R1).take 4) = some (t, n)) : ∃ R', LfAt (u ++ R1) t R' /\ Sep R' /\ (u :: sp R1).drop n = sp R' /\
    ∀ (op : List (Str × List Tm)) (c dp : Int) (fin : Ms), Run ⟨op, none, c, dp⟩ (pcs [] (u ++ R1)) fin ↔ Goes op t (c + 1) (max dp ((op.length : Int) + 1)) R' fin := by
  obtain ⟨R', lf, hs, hd⟩ := oneR_some hu hR h
  refine ⟨R', lf, hs, hd, fun op c dp fin => ⟨fun g => ?_, fun g => ?_⟩⟩
  · rcases run_inv g with ⟨d, hdd, r, e, _⟩ | ⟨t2, R2, lf2, h2, g2⟩
    · obtain ⟨e1, e2⟩ := span_uniq e hu (deed_sgn hdd) hR sep40
      exact absurd (hno d hdd r e1 e2) (fun z => z)
    · obtain ⟨n2, h3, h4⟩ := oneR_leaf hu hR lf2 h2
      rw [h] at h3
      cases h3
      have e : R2 = R' := by
        have := lf.e.symm.trans lf2.e
        exact (List.append_cancel_left this).symm
      subst e
      rcases g2 t lf with g2 | g2
      · exact g2
      · exact absurd rfl g2
  · have := goes_run (z := sh t) (.leaf (op := op) (cnt := c) (dp := dp) lf.lf lf.wf) g
    rw [lf.e, pcs_word (leaf_stop lf.lf lf.wf)]
    exact this
theorem none_iff {u R1 : List Nat} (hu : ∀ c ∈ u, sgnOk c = true) (hR : Sep R1) (hno : ∀ d ∈ deeds, ∀ r, u = d.cps.toList -> R1 = 40 :: r -> False) (h : oneR u ((sp R1).take 4) = none) (op : List (Str × List Tm)) (c dp : Int) (fin : Ms) : ¬ Run ⟨op, none, c, dp⟩ (pcs [] (u ++ R1)) fin := fun g => by
  rcases run_inv g with ⟨d, hdd, r, e, _⟩ | ⟨t2, R2, lf2, h2, g2⟩
  · obtain ⟨e1, e2⟩ := span_uniq e hu (deed_sgn hdd) hR sep40
    exact hno d hdd r e1 e2
  · obtain ⟨n2, h3, h4⟩ := oneR_leaf hu hR lf2 h2
    rw [h] at h3
    cases h3
theorem close_iff {op : List (Str × List Tm)} {d : Str} {ts : List Tm} {t : Tm} {c dp : Int} {r : List Nat} {fin : Ms} (h3 : ts.length + 1 <= 3) : Goes (op ++ [(d, ts)]) t c dp (41 :: r) fin ↔ Goes op (.call d (ts ++ [t])) c dp r fin := by
  rw [<- goes_iff (R := r)]
  constructor
  · rintro (⟨z, _⟩ | ⟨_, pre, d', ts', e, _, g⟩)
    · exact absurd z (by decide)
    · obtain ⟨e1, e2⟩ := List.append_inj' e rfl
      cases e2
      subst e1
      exact g
  · exact fun g => .inr ⟨rfl, _, _, _, rfl, h3, g⟩
theorem comma_iff {op : List (Str × List Tm)} {d : Str} {ts : List Tm} {t : Tm} {c dp : Int} {r : List Nat} {fin : Ms} : Goes (op ++ [(d, ts)]) t c dp (44 :: r) fin ↔ Run ⟨op ++ [(d, ts ++ [t])], none, c, dp⟩ (pcs [] r) fin := by
  constructor
  · rintro (⟨_, pre, d', ts', e, g⟩ | ⟨z, _⟩)
    · obtain ⟨e1, e2⟩ := List.append_inj' e rfl
      cases e2
      subst e1
      exact g
    · exact absurd z (by decide)
  · exact fun g => .inl ⟨rfl, _, _, _, rfl, g⟩
theorem told_is {L : List Nat} {t u : Tm} {c dp : Int} (h : Run m0s (pcs [] L) ⟨[], some t, c, dp⟩) (e : L = (sh u).cps.toList) (w : Wf u) : t = u := by
  have a := sound h
  have b := TM.run_all w
  rw [<- e] at b
  have : ∀ (ps : List (Str × Str)) (m a b : Ms), Run m ps a -> Run m ps b -> a = b := by
    intro ps
    induction ps with
    | nil => intro m a b h1 h2; have h1 : m = a := h1; have h2 : m = b := h2; rw [<- h1, <- h2]
    | cons p ps ih =>
      rintro m a b ⟨x, h1, h2⟩ ⟨y, h3, h4⟩
      have : x = y := step_det h1 h3
      subst this
      exact ih x a b h2 h4
  have := this _ _ _ _ h b
  cases this
  rfl
where
  leaf_inj {t u : Tm} (ht : Leaf t) (wt : Wf t) (hu : Leaf u) (wu : Wf u) (e : sh t = sh u) : t = u := by
    obtain ⟨v, R1, e1, hv, hR⟩ := span ((sh t).cps.toList ++ [])
    obtain ⟨n, h1, _⟩ := oneR_leaf (t := t) (R' := []) hv hR ⟨e1.symm, ht, wt⟩ (fun _ _ h => nomatch h)
    obtain ⟨n', h2, _⟩ := oneR_leaf (t := u) (R' := []) hv hR ⟨by rw [<- e1, e], hu, wu⟩ (fun _ _ h => nomatch h)
    rw [h1] at h2
    cases h2
    rfl
  endd_det {m a b : Ms} {z : Str} (h1 : Endd m z a) (h2 : Endd m z b) : a = b := by
    obtain ⟨op, rd, c, dp⟩ := m
    cases rd with
    | none =>
      obtain ⟨t, l1, w1, e1, q1⟩ := endd_inv h1
      obtain ⟨u, l2, w2, e2, q2⟩ := endd_inv h2
      have := leaf_inj l1 w1 l2 w2 (e1.symm.trans e2)
      subst this
      rw [q1, q2]
    | some t => rw [(endd_inv2 h1).2, (endd_inv2 h2).2]
  step_det {m a b : Ms} {p : Str × Str} (h1 : Step m p a) (h2 : Step m p b) : a = b := by
    obtain ⟨z, s⟩ := p
    have nz : ∀ {x y : List Nat}, s = mkS x -> s = mkS y -> x = y := fun a b => mkS_inj' (a.symm.trans b)
    rcases step_cases h1 with ⟨e, _, _, rfl⟩ | ⟨e, he⟩ | ⟨e, op, d, ts, t, c, dp, he, rfl⟩ | ⟨e, op, d, ts, t, c, dp, he, _, rfl⟩ <;>
    rcases step_cases h2 with ⟨e', _, _, rfl⟩ | ⟨e', he'⟩ | ⟨e', op', d', ts', t', c', dp', he', rfl⟩ | ⟨e', op', d', ts', t', c', dp', he', _, rfl⟩ <;>
    first
      | exact absurd (nz e e') (by decide)
      | rfl
      | exact endd_det he he'
      | (have q := endd_det he he'
         injection q with q1 q2 q3 q4
         obtain ⟨e1, e2⟩ := List.append_inj' q1 rfl
         cases e2; cases q2; subst e1 q3 q4; rfl)
theorem run_of {u : Tm} (w : Wf u) : Run m0s (pcs [] (sh u).cps.toList) ⟨[], some u, parts u, depth u⟩ := TM.run_all w
end K07
namespace K07
open PySem L2 NS TR
open TM hiding Endd Ms Run Step pcs run_all
abbrev S36 : Str := "abcdefghijklmnopqrstuvwxyz0123456789"
abbrev S4 : Str := "0123"
theorem inS_eq (s : Str) (c : Nat) : inS s c = decide (c ∈ s.cps.toList) := by
  have hfo := StrLaws.found_one s c
  unfold inS
  first | exact hfo | simpa using hfo
theorem m36 : ∀ c ∈ S36.cps.toList, sgnOk c = true := by decide +kernel
theorem m26 : ∀ c ∈ S26.cps.toList, letOk c = true := by decide +kernel
theorem m10 : ∀ c ∈ S10.cps.toList, figOk c = true := by decide +kernel
theorem m4 : ∀ c ∈ S4.cps.toList, c = 48 \/ c = 49 \/ c = 50 \/ c = 51 := by decide +kernel
theorem of_in {s : Str} {c : Nat} (h : inS s c = true) : c ∈ s.cps.toList := by rw [inS_eq] at h; exact of_decide_eq_true h
theorem in36 : ∀ c, c < 128 -> sgnOk c = true -> inS S36 c = true := by decide +kernel
theorem all_iff {s x : Str} {p : Nat -> Bool} (h1 : ∀ c ∈ s.cps.toList, p c = true) (h2 : ∀ c, c < 128 -> p c = true -> inS s c = true) (h3 : ∀ c, p c = true -> c < 128) : allB s x = true ↔ ∀ c ∈ x.cps.toList, p c = true := by
  constructor
  · intro h c hc
    exact h1 c (of_in (List.all_eq_true.mp h c hc))
  · intro h
    exact all_yes fun c hc => h2 c (h3 c (h c hc)) (h c hc)
theorem all26 {x : Str} : allB S26 x = true ↔ ∀ c ∈ x.cps.toList, letOk c = true := all_iff m26 in26 (fun _ => let_lt)
theorem all10 {x : Str} : allB S10 x = true ↔ ∀ c ∈ x.cps.toList, figOk c = true := all_iff m10 in10 (fun _ => fig_lt)
theorem all36 {x : Str} : allB S36 x = true ↔ ∀ c ∈ x.cps.toList, sgnOk c = true := all_iff m36 in36 (fun _ => sgn_lt)
def txB (z : Str) : Bool := decide (z.length <= 40) && allB S36 z
theorem tx_iff {z : Str} : txB z = true ↔ Wf (.text z) := by
  unfold txB Wf
  rw [Bool.and_eq_true, decide_eq_true_eq, all36, len_list]
theorem nm_iff {z : Str} : nmB z = true ↔ z.cps.toList ≠ [] /\ z.cps.toList.length <= 8 /\ ∀ c ∈ z.cps.toList, letOk c = true := by
  unfold nmB
  rw [Bool.and_eq_true, Bool.and_eq_true, decide_eq_true_eq, decide_eq_true_eq, all26, len_list]
  constructor
  · rintro ⟨⟨a, b⟩, c⟩; exact ⟨List.length_pos_iff.mp a, b, c⟩
  · rintro ⟨a, b, c⟩; exact ⟨⟨List.length_pos_iff.mpr a, b⟩, c⟩
theorem num_iff {z : Str} : numB z = true ↔ ∃ n, z = sh (.num n) /\ Wf (.num n) := by
  unfold numB
  simp only [Bool.and_eq_true, decide_eq_true_eq, Bool.not_eq_true', Bool.and_eq_false_iff, decide_eq_false_iff_not, Bool.not_eq_false', all10, len_list]
  constructor
  · rintro ⟨⟨a, b⟩, c, d⟩
    have hf : ∀ c ∈ z.cps.toList, 48 <= c /\ c <= 57 := fun c hc => fig_iff.mp (d c hc)
    refine ⟨_, str_ext (dig_sh (List.length_pos_iff.mp a) hf fun e => ?_).symm, by unfold Wf; exact ⟨by omega, dig_bound hf b⟩⟩
    rcases c with c | c
    · exact absurd e c
    · rw [c]; rfl
  · rintro ⟨n, rfl, wf⟩
    unfold Wf at wf
    unfold sh
    have l := num_len wf.1 wf.2
    refine ⟨⟨List.length_pos_iff.mpr l.1, l.2⟩, ?_, num_figs wf.1⟩
    by_cases e : (Str.ofString (toString n)).cps.toList.head? = some 48
    · have := num_head wf.1 e
      subst this
      exact .inr (by decide +kernel)
    · exact .inl e
theorem quote : (Str.ofString "\"") = ⟨#[34]⟩ := by decide
theorem dot : (Str.ofString ".") = ⟨#[46]⟩ := by decide
theorem inner_list {x : Str} {l : List Nat} {c d : Nat} (h : x.cps.toList = c :: (l ++ [d])) : (Txt.slice x (some 1) (some (-1))).cps.toList = l := by
  have hl : x.length = l.length + 2 := by rw [len_list, h]; simp
  have e : Txt.slice x (some 1) (some (-1)) = PySem.StrLaws.sliceText x (some 1) (some (-1)) := rfl
  have e2 : Txt.slice x (some 1) (some ((-1) + (x.length : Int))) = PySem.StrLaws.sliceText x (some 1) (some ((-1) + (x.length : Int))) := rfl
  rw [e, PySem.StrLaws.sliceText_neg_hi x (some 1) (by decide) (by omega), <- e2, mid_list (k := 1) 1 (l.length + 1) rfl (by omega) (by omega) (by rw [h]; simp), h]
  simp
theorem val_list (k : Int) (x : Str) : (sh (.val k x)).cps.toList = (Str.ofString (toString k)).cps.toList ++ 46 :: x.cps.toList := by
  unfold sh
  rw [app_list, app_list, dot_list]
  simp
theorem k_list {k : Int} (h : k = 0 \/ k = 1 \/ k = 2 \/ k = 3) : ∃ c, (Str.ofString (toString k)).cps.toList = [c] /\ figOk c = true /\ inS S4 c = true /\ PySem.intText? ⟨#[c]⟩ = some k := by
  rcases h with rfl | rfl | rfl | rfl
  · exact ⟨48, by decide +kernel, by decide, by decide +kernel, by decide +kernel⟩
  · exact ⟨49, by decide +kernel, by decide, by decide +kernel, by decide +kernel⟩
  · exact ⟨50, by decide +kernel, by decide, by decide +kernel, by decide +kernel⟩
  · exact ⟨51, by decide +kernel, by decide, by decide +kernel, by decide +kernel⟩
theorem text_list (x : Str) : (sh (.text x)).cps.toList = 34 :: (x.cps.toList ++ [34]) := by
  unfold sh
  rw [app_list, app_list, q_list]
  rfl
def spText : Sp := fun vs H Q _ => ∃ z, vs = [.str z] /\ z.length <= 20000 /\ ∀ H', Same H H' -> Q (.bl (txB z)) H'
def spKind : Sp := fun vs H Q _ => ∃ z, vs = [.str "text", .str z] /\ z.length <= 20000 /\ ∀ H', Same H H' -> Q (.bl (txB z)) H'
def spDeed : Sp := fun vs H Q _ => ∃ d, vs = [.str d] /\ Q (.bl (decide (d ∈ deeds))) H
def isV (z : Str) : Prop := ∃ k x, z = sh (.val k x) /\ Wf (.val k x)
def isQ (z : Str) : Prop := ∃ x, z = sh (.text x) /\ Wf (.text x)
def isL (z : Str) : Prop := ∃ t, Leaf t /\ Wf t /\ z = sh t
def spReadV (N : Addr) : Sp := fun vs H Q E => ∃ z : Str, vs = [.str z] /\ TxOk z /\ ((∃ k x, z = sh (.val k x) /\ Wf (.val k x) /\ ∀ p H', Same H H' -> H' p = some (.tup [.int k, .str x]) -> Q (.ref p) H') \/ (¬ isV z /\ ∀ H', Same H H' -> E (.ref N) none H'))
def spQuoted : Sp := fun vs H Q _ => ∃ z : Str, vs = [.str z] /\ z.length <= 20000 /\ ((isQ z /\ ∀ H', Same H H' -> Q (.bl true) H') \/ (¬ isQ z /\ ∀ H', Same H H' -> Q (.bl false) H'))
def spLeafR (N : Addr) : Sp := fun vs H Q E => ∃ z : Str, vs = [.str z] /\ TxOk z /\ ((∃ t, Leaf t /\ Wf t /\ z = sh t /\ ∀ v H', Same H H' -> TmIs H' t v -> Q v H') \/ (¬ isL z /\ ∀ H', Same H H' -> E (.ref N) none H'))
theorem str_hd2 {z : Str} (h : 2 <= z.length) : ∃ a l b, z.cps.toList = a :: (l ++ [b]) := by
  rw [len_list] at h
  cases e : z.cps.toList with
  | nil => rw [e] at h; exact absurd h (by decide)
  | cons a r =>
    rcases List.eq_nil_or_concat r with rfl | ⟨l, b, rfl⟩
    · rw [e] at h; exact absurd h (by simp)
    · exact ⟨a, l, b, by rw [List.concat_eq_append]⟩
section
variable {P : Program} {w : World} {K : PySem.W.Frag} {mg : Str -> Option Value} {base : Heap} {T : Adr}
theorem leaf_len {t : Tm} (hl : Leaf t) (w : Wf t) : 1 <= (sh t).length /\ (sh t).length <= 50 := by
  have h2 := sh_len t w
  rw [parts_leaf hl] at h2
  refine ⟨?_, by omega⟩
  rw [len_list]
  cases t with
  | num n =>
    unfold Wf at w
    unfold sh
    have := (num_len w.1 w.2).1
    exact List.length_pos_iff.mpr this
  | text z => rw [text_list]; simp
  | row => decide
  | mark => decide
  | val k z => rw [val_list, List.length_append, List.length_cons]; omega
  | call _ _ => cases hl
theorem ok_text (X : Tx K w mg T) : FnOk P w K mg base CX0 1 T.qistext T.d_qistext ["thing"] spText := by
  refine X.F_qistext.okQ sc_qistext (fun vs H Q E h => ?_) (fun cdv A outer s H vs Q E hr h => ?_)
  · obtain ⟨_, rfl, _⟩ := h
    rfl
  obtain ⟨x, rfl, hx, q⟩ := h
  refine ⟨_, (qss_cons (qs_if (qw_pt (qw_or (qt_not (qt_val (qe_callB call_isinst rfl X.z_isinstance PyProof.Rows.boot_isinstance (qaN (qv 0) (qaN (qe_bltn rfl X.z_str PyProof.Rows.boot_str rfl (v := .ty "str")) qa_nil))))) (qw_or1 (qt_cmpR op_gt (qe_callB call_len_str rfl X.z_len PySem.boot_len (qaN (qv 0) qa_nil)) (qe_glob rfl X.c_MOST_SIGNS (v := V.int 40) ⟨_, rfl⟩) (nomark _))))) (qss_one (qs_ret qe_bl)) qss_nil) (qss_one (qs_ret (qe_callB (call_all rfl) rfl X.z_all PyProof.Rows.boot_all (qaE (qe_comp (ys := []) (js := []) rfl rfl (qi_str (qv 0)) (fun _ _ _ _ _ => qif_nil) (fun _ _ _ _ _ => (qe_cmpR op_in_str (qv 0) (qe_glob rfl X.c_SIGNS (v := V.str "abcdefghijklmnopqrstuvwxyz0123456789") ⟨_, rfl⟩) rfl))) qa_nil))))), ?_⟩
  refine ⟨_, rfl, _, "str", _, _, rfl, .str x, k_ss, _, rfl, _, rfl, x, rfl, fits2 (by omega), _, _, rfl, rfl, _, rfl, iteDd (fun h => ?_) (fun h => ?_)⟩
  · have e : txB x = false := by unfold txB; rw [decide_eq_false (show ¬ x.length <= 40 by omega)]; rfl
    rw [e] at q
    exact q H (Same.refl _)
  have e : txB x = allB S36 x := by unfold txB; rw [decide_eq_true (show x.length <= 40 by omega)]; rfl
  rw [e] at q
  refine ⟨_, rfl, x, rfl, fun D hD => comp_strM (ys := x.cps.toList.map fun c => V.bl (inS S36 c)) (fitsL (by show x.length <= _; omega)) (by simp) hD (fun i c y H' hc hy sm Q' q' => ?_) (fun H' sm hl => ⟨D, x.cps.toList.map (inS S36), rfl, SqL.of (by rw [hl, List.map_map]; rfl), ?_⟩)⟩
  · refine ⟨_, rfl, _, _, rfl, rfl, ?_⟩
    have e : y = V.bl (inS S36 c) := by
      rw [List.getElem?_map, Array.getElem?_toList, hc] at hy
      exact (Option.some.inj hy).symm
    rw [e] at q'
    exact q' _ (Same.refl _)
  · have e : (x.cps.toList.map (inS S36)).all id = allB S36 x := by
      rw [List.all_map]
      rfl
    rw [e]
    exact q H' sm
theorem ok_kind (X : Tx K w mg T) : FnOk P w K mg base CX0 2 T.qiskind T.d_qiskind ["kind", "thing"] spKind := by
  have G_qistext := ok_text (P := P) (w := w) (base := base) X
  refine X.F_qiskind.okQ sc_qiskind (fun vs H Q E h => ?_) (fun cdv A outer s H vs Q E hr h => ?_)
  · obtain ⟨_, rfl, _⟩ := h
    rfl
  obtain ⟨x, rfl, hx, q⟩ := h
  refine ⟨_, (qss_cons (qs_if (qt_cmpR op_eq (qv 0) qe_str (nomark _)) qss_never qss_nil) (qss_cons (qs_if (qt_cmpR op_eq (qv 0) qe_str (nomark _)) (qss_one (qs_ret (qe_call G_qistext hr rfl X.m_qistext X.F_qistext.kp X.b_qistext .nil pass0 (qaN (qv 1) qa_nil)))) qss_nil) (qss_one qs_never))), ?_⟩
  exact ⟨_, rfl, rfl, _, rfl, iteNd (by decide) ⟨_, rfl, rfl, _, rfl, iteYd rfl ⟨_, rfl, x, rfl, hx, q⟩⟩⟩
theorem need_eq (X : Tx K w mg T) {d : Str} (hp : ¬ d = "pick") : (valT [(("add" : Str), Value.ref T.NEEDS_0), (("sub" : Str), Value.ref T.NEEDS_1), (("mul" : Str), Value.ref T.NEEDS_2), (("less" : Str), Value.ref T.NEEDS_3), (("glue" : Str), Value.ref T.NEEDS_4), (("show" : Str), Value.ref T.NEEDS_5), (("size" : Str), Value.ref T.NEEDS_6), (("put" : Str), Value.ref T.NEEDS_7), (("link" : Str), Value.ref T.NEEDS_8), (("at" : Str), Value.ref T.NEEDS_9), (("many" : Str), Value.ref T.NEEDS_10)] d).isSome = decide (d ∈ deeds) := by
  by_cases h : d ∈ deeds
  · rw [decide_eq_true h]
    unfold deeds at h
    simp only [List.mem_cons, List.mem_nil_iff, or_false] at h
    rcases h with rfl | rfl | rfl | rfl | rfl | rfl | rfl | rfl | rfl | rfl | rfl | rfl <;> first | rfl | exact absurd rfl hp
  · rw [decide_eq_false h]
    unfold valT
    rw [Option.isSome_map, <- Bool.not_eq_true, List.find?_isSome]
    rintro ⟨p, hp, e⟩
    refine h ?_
    have e : p.1 = d := by simpa using e
    rw [<- e]
    have hp := List.mem_map_of_mem (f := Prod.fst) hp
    exact (by decide +kernel : ∀ x ∈ [("add" : Str), "sub", "mul", "less", "glue", "show", "size", "put", "link", "at", "many"], x ∈ deeds) _ hp
theorem ok_deed (X : Tx K w mg T) : FnOk P w K mg base CX0 1 T.qisdeed T.d_qisdeed ["word"] spDeed := by
  refine X.F_qisdeed.okQ sc_qisdeed (fun vs H Q E h => ?_) (fun cdv A outer s H vs Q E hr h => ?_)
  · obtain ⟨_, rfl, _⟩ := h
    rfl
  obtain ⟨d, rfl, q⟩ := h
  refine ⟨_, (qss_one (qs_ret (qe_or (qe_cmpR op_eq (qv 0) qe_str (nomark _)) (qe_one (qe_cmpR op_inTop (qv 0) (qe_glob rfl X.c_NEEDS (v := V.ref T.a_NEEDS) rfl) rfl))))), ?_⟩
  refine ⟨_, rfl, rfl, _, rfl, iteDd (fun h => ?_) (fun h => ?_)⟩
  · have hd : d = "pick" := V.str.inj h
    subst hd
    have e : decide (("pick" : Str) ∈ deeds) = true := by decide +kernel
    rw [e] at q
    exact q
  · refine ⟨_, rfl, d, T.a_NEEDS, _, rfl, rfl, X.d_NEEDS, X.y_NEEDS, ?_⟩
    rw [need_eq X fun e => h (by rw [e])]
    exact q
theorem ok_readv (X : Tx K w mg T) : FnOk P w K mg base (CXe P w) 2 T.qreadvalue T.d_qreadvalue ["word"] (spReadV T.k_NoText) := by
  have G_qisname := ok_name (P := P) (w := w) (base := base) X
  refine X.F_qreadvalue.okE sc_qreadvalue (fun vs H Q E h => ?_) (fun cdv A outer s H vs Q E hr h => ?_)
  · obtain ⟨_, rfl, _⟩ := h
    rfl
  obtain ⟨z, rfl, tz, hor⟩ := h
  refine ⟨_, (qss_cons (qs_if (qw_pt (qw_or (qt_cmpR op_lt (qe_callB call_len_str rfl X.z_len PySem.boot_len (qaN (qv 0) qa_nil)) qe_int (nomark _)) (qw_or (qt_cmpR op_notin_str (qe_ix ix_str (qv 0) qe_int (fun _ _ => rfl)) (qe_glob rfl X.c_PLACES (v := V.str "0123") ⟨_, rfl⟩) rfl) (qw_or (qt_cmpR op_ne (qe_ix ix_str (qv 0) qe_int (fun _ _ => rfl)) qe_str (nomark _)) (qw_or1 (qt_not (qt_val (qe_call G_qisname hr rfl X.m_qisname X.F_qisname.kp X.b_qisname .nil pass0 (qaS (qe_slice sl_str (qv 0) (qo_some qe_int) qo_none) qa_nil))))))))) (qss_one (qs_raise rfl rfl X.m_NoText X.e_NoText (qaJ (qe_join (qj_cons (qe_rep hr (qv 0)) (qj_cons qe_str qj_nil))) qa_nil) xe_raise)) qss_nil) (qss_one (qs_ret (qe_tup (qaK (qe_callTy call_int_txt rfl X.z_int PyProof.Rows.boot_int (qaS (qe_ix ix_str (qv 0) qe_int (fun _ _ => rfl)) qa_nil)) (qaS (qe_slice sl_str (qv 0) (qo_some qe_int) qo_none) qa_nil)))))), ?_⟩
  have hzl := tz.1
  have ls := shown_str tz
  have e0 : Str.empty.length = 0 := rfl
  have l1 : (Str.ofString " writes no value of a form").length = 26 := by decide
  have hsz : sizeLine = 16777216 := by decide
  unfold tNext
  refine seq_ifS_by (fun H1 => Same H H1 /\ ¬ isV z) (fun H1 => Same H H1 /\ ∃ (c : Nat) (x : Str), z.cps.toList = c :: 46 :: x.cps.toList /\ (c = 48 \/ c = 49 \/ c = 50 \/ c = 51) /\ x.cps.toList ≠ [] /\ x.cps.toList.length <= 8 /\ ∀ c ∈ x.cps.toList, letOk c = true) (fun Q' qT qF => ?_) (fun H1 ⟨s1, hn⟩ => ?_) (fun H1 ⟨s1, c, x, L, hc, hx⟩ => ?_)
  · refine ⟨_, rfl, z, rfl, fits2 (by omega), _, _, rfl, rfl, _, rfl, iteDd (fun h => qT H ⟨Same.refl _, ?_⟩) (fun h => ?_)⟩
    · rintro ⟨k, x, rfl, wf⟩
      unfold Wf at wf
      have lx := List.length_pos_iff.mpr wf.2.1
      obtain ⟨c, ec, _⟩ := k_list wf.1
      have hl : (sh (.val k x)).length = x.cps.toList.length + 2 := by rw [len_list, val_list, ec]; rfl
      omega
    obtain ⟨c, c1, r, L⟩ : ∃ c c1 r, z.cps.toList = c :: c1 :: r := by
      have h : 3 <= z.cps.toList.length := by rw [<- len_list]; omega
      match e : z.cps.toList, h with
      | a :: b :: r, _ => exact ⟨a, b, r, rfl⟩
    have a0 : atI z.cps.toList 0 = some c := by rw [L]; exact atI_head _ _
    have a1 : atI z.cps.toList 1 = some c1 := by rw [L]; exact atI_nat (j := 1) rfl
    have a2 : Txt.slice z (some 2) none = mkS r := str_ext (by rw [from_list' (k := 2) 2 rfl (by rw [L]; simp), L, mk_list]; rfl)
    have notV : ∀ {p : Prop}, (∀ k x, Wf (.val k x) -> c = c -> c :: c1 :: r = (Str.ofString (toString k)).cps.toList ++ 46 :: x.cps.toList -> p) -> isV z -> p := fun g ⟨k, x, e, wf⟩ => g k x wf rfl (by rw [<- L, e, val_list])
    refine ⟨_, rfl, z, 0, c, rfl, rfl, fits2 (by omega), a0, _, _, rfl, rfl, _, rfl, ?_⟩
    show if (!inS S4 c) = true then _ else _
    cases h4 : inS S4 c with
    | false =>
      refine iteT (qT H ⟨Same.refl _, notV fun k x wf _ e => ?_⟩)
      unfold Wf at wf
      obtain ⟨d, ed, _, d4, _⟩ := k_list wf.1
      rw [ed] at e
      cases e
      rw [h4] at d4
      cases d4
    | true =>
    refine iteF ?_
    refine ⟨_, rfl, z, 1, c1, rfl, rfl, fits2 (by omega), a1, rfl, _, rfl, iteNe (fun h1 => qT H ⟨Same.refl _, notV fun k x wf _ e => ?_⟩) (fun h1 => ?_)⟩
    · unfold Wf at wf
      obtain ⟨d, ed, _, d4, _⟩ := k_list wf.1
      rw [ed] at e
      cases e
      exact h1 (by rw [dot])
    have h46 : c1 = 46 := one_eq.mp (h1.trans (by rw [dot]))
    subst h46
    refine ⟨_, rfl, _, rfl, z, rfl, fits2 (by omega), _, rfl, by rw [a2, len_list, mk_list]; rw [len_list, L] at hzl; simp at hzl ⊢; omega, fun H1 s1 => ⟨_, rfl, ?_⟩⟩
    rw [a2]
    cases hn : nmB (mkS r) with
    | false =>
      refine qT H1 ⟨s1, notV fun k x wf _ e => ?_⟩
      unfold Wf at wf
      obtain ⟨d, ed, _, d4, _⟩ := k_list wf.1
      rw [ed] at e
      have er : r = x.cps.toList := by cases e; rfl
      rw [er, mk_back, nm_iff.mpr wf.2] at hn
      cases hn
    | true =>
      refine qF H1 ⟨s1, c, mkS r, by rw [mk_list]; exact L, m4 c (of_in h4), nm_iff.mp hn⟩
  · rcases hor with ⟨k, x, rfl, wf, _⟩ | ⟨_, qe⟩
    · exact absurd ⟨k, x, rfl, wf⟩ hn
    · exact ⟨_, rfl, .str _, .str _, by simp only [PyData.showable], by simp only [PyData.hasDict], by simp only [PyData.depth]; decide, by omega, _, rfl, by rw [app_len, e0]; omega, _, rfl, by rw [app_len, app_len, e0, l1]; omega, (by show 1 <= 10; decide), qe _ s1⟩
  · have a0 : atI z.cps.toList 0 = some c := by rw [L]; exact atI_head _ _
    have a2 : Txt.slice z (some 2) none = x := str_ext (by rw [from_list' (k := 2) 2 rfl (by rw [L]; simp), L]; rfl)
    obtain ⟨k, ek, ci, wk⟩ : ∃ k : Int, (Str.ofString (toString k)).cps.toList = [c] /\ PySem.intText? ⟨#[c]⟩ = some k /\ (k = 0 \/ k = 1 \/ k = 2 \/ k = 3) := by
      rcases hc with rfl | rfl | rfl | rfl
      · exact ⟨0, by decide +kernel, by decide +kernel, by decide⟩
      · exact ⟨1, by decide +kernel, by decide +kernel, by decide⟩
      · exact ⟨2, by decide +kernel, by decide +kernel, by decide⟩
      · exact ⟨3, by decide +kernel, by decide +kernel, by decide⟩
    have ez : z = sh (.val k x) := str_ext (by rw [val_list, ek, L]; rfl)
    have wv : Wf (.val k x) := by unfold Wf; exact ⟨wk, hx⟩
    refine ⟨_, rfl, z, 0, c, rfl, rfl, fits2 (by omega), a0, _, k, rfl, ci, (by show 1 <= 640; decide), _, rfl, _, rfl, z, rfl, fits2 (by omega), (by show 2 <= sizeLine; decide), fun p hp => ?_⟩
    rw [a2]
    rcases hor with ⟨k', x', e, wf', q⟩ | ⟨hn, _⟩
    · have : Tm.val k x = Tm.val k' x' := told_is.leaf_inj trivial wv trivial wf' (ez.symm.trans e)
      cases this
      exact q p _ (s1.trans (same_new hp _)) upd_same
    · exact absurd ⟨k, x, ez, wv⟩ hn
theorem ok_quoted (X : Tx K w mg T) : FnOk P w K mg base CX0 3 T.qisquoted T.d_qisquoted ["word"] spQuoted := by
  have G_qiskind := ok_kind (P := P) (w := w) (base := base) X
  refine X.F_qisquoted.okQ sc_qisquoted (fun vs H Q E h => ?_) (fun cdv A outer s H vs Q E hr h => ?_)
  · obtain ⟨_, rfl, _⟩ := h
    rfl
  obtain ⟨z, rfl, hz, hor⟩ := h
  refine ⟨_, (qss_cons (qs_if (qw_pt (qw_or (qt_cmpR op_lt (qe_callB call_len_str rfl X.z_len PySem.boot_len (qaN (qv 0) qa_nil)) qe_int (nomark _)) (qw_or (qt_cmpR op_ne (qe_ix ix_str (qv 0) qe_int (fun _ _ => rfl)) (qe_glob rfl X.c_QUOTE (v := V.str "\"") ⟨_, rfl⟩) (nomark _)) (qw_or1 (qt_cmpR op_ne (qe_ix ix_str (qv 0) (qe_un un_neg qe_int) (fun _ _ => rfl)) (qe_glob rfl X.c_QUOTE (v := V.str "\"") ⟨_, rfl⟩) (nomark _)))))) (qss_one (qs_ret qe_bl)) qss_nil) (qss_one (qs_ret (qe_call G_qiskind hr rfl X.m_qiskind X.F_qiskind.kp X.b_qiskind .nil pass0 (qaC qe_str (qaS (qe_slice sl_str (qv 0) (qo_some qe_int) (qo_some (qe_un un_neg qe_int))) qa_nil)))))), ?_⟩
  have no : ¬ isQ z -> ∀ H', Same H H' -> Q (.bl false) H' := fun hn => by
    rcases hor with ⟨h, _⟩ | ⟨_, q⟩
    · exact absurd h hn
    · exact q
  refine ⟨_, rfl, z, rfl, fits2 (by omega), _, _, rfl, rfl, _, rfl, iteDd (fun h => no ?_ H (Same.refl _)) (fun h => ?_)⟩
  · rintro ⟨x, rfl, _⟩
    rw [len_list, text_list, List.length_cons, List.length_append] at h
    simp at h
    omega
  obtain ⟨a, l, b, L⟩ := str_hd2 (z := z) (by omega)
  have e0 : atI z.cps.toList 0 = some a := by rw [L]; exact atI_head _ _
  have e1 : atI z.cps.toList (-1) = some b := by rw [L, <- List.cons_append]; exact atI_last _ _
  have e2 : Txt.slice z (some 1) (some (-1)) = mkS l := str_ext (by rw [inner_list L, mk_list])
  have isq : isQ z -> a = 34 /\ b = 34 /\ Wf (.text (mkS l)) := fun ⟨x, e, wf⟩ => by
    rw [e, text_list] at L
    obtain ⟨h0, h1⟩ := List.cons.inj L
    obtain ⟨h2, h3⟩ := List.append_inj' h1 rfl
    cases h3
    rw [<- h2, mk_back]
    exact ⟨h0.symm, rfl, wf⟩
  refine ⟨_, rfl, z, 0, a, rfl, rfl, fits2 (by omega), e0, rfl, _, rfl, iteNe (fun h => no (fun g => h (by rw [(isq g).1, quote])) H (Same.refl _)) (fun h => ?_)⟩
  refine ⟨_, rfl, _, rfl, z, -1, b, rfl, rfl, fits2 (by omega), e1, rfl, _, rfl, iteNe (fun h => no (fun g => h (by rw [(isq g).2.1, quote])) H (Same.refl _)) (fun h' => ?_)⟩
  have a34 : a = 34 := one_eq.mp (h.trans (by rw [quote]))
  have b34 : b = 34 := one_eq.mp (h'.trans (by rw [quote]))
  subst a34 b34
  refine ⟨_, rfl, _, rfl, _, rfl, _, rfl, z, rfl, fits2 (by omega), _, rfl, by rw [e2, len_list, mk_list]; rw [len_list, L] at hz; simp at hz; omega, fun H1 s1 => ?_⟩
  rw [e2]
  cases ht : txB (mkS l) with
  | false =>
    refine no (fun g => ?_) H1 s1
    rw [tx_iff.mpr (isq g).2.2] at ht
    cases ht
  | true =>
    rcases hor with ⟨_, q⟩ | ⟨hn, _⟩
    · exact q H1 s1
    · exact absurd ⟨mkS l, str_ext (by rw [text_list, mk_list, L]), tx_iff.mp ht⟩ hn
theorem ok_leafR (X : Tx K w mg T) : FnOk P w K mg base (CXe P w) 4 T.qreadleaf T.d_qreadleaf ["word"] (spLeafR T.k_NoText) := by
  have G_qisnumber := (ok_number (P := P) (w := w) (base := base) X).mono (show 1 <= 3 by decide)
  have G_qisquoted := ok_quoted (P := P) (w := w) (base := base) X
  have G_qreadvalue := (ok_readv (P := P) (w := w) (base := base) X).mono (show 2 <= 3 by decide)
  refine X.F_qreadleaf.okE sc_qreadleaf (fun vs H Q E h => ?_) (fun cdv A outer s H vs Q E hr h => ?_)
  · obtain ⟨_, rfl, _⟩ := h
    rfl
  obtain ⟨z, rfl, tz, hor⟩ := h
  refine ⟨_, (qss_cons (qs_if (qt_cmpR op_eq (qv 0) qe_str (nomark _)) (qss_one (qs_ret (qe_tup (qaC qe_str qa_nil)))) qss_nil) (qss_cons (qs_if (qt_cmpR op_eq (qv 0) qe_str (nomark _)) (qss_one (qs_ret (qe_tup (qaC qe_str qa_nil)))) qss_nil) (qss_cons (qs_if (qt_val (qe_call G_qisnumber hr rfl X.m_qisnumber X.F_qisnumber.kp X.b_qisnumber .nil pass0 (qaN (qv 0) qa_nil))) (qss_one (qs_ret (qe_tup (qaC qe_str (qaK (qe_callTy call_int_txt rfl X.z_int PyProof.Rows.boot_int (qaN (qv 0) qa_nil)) qa_nil))))) qss_nil) (qss_cons (qs_if (qt_val (qe_call G_qisquoted hr rfl X.m_qisquoted X.F_qisquoted.kp X.b_qisquoted .nil pass0 (qaN (qv 0) qa_nil))) (qss_one (qs_ret (qe_tup (qaC qe_str (qaS (qe_slice sl_str (qv 0) (qo_some qe_int) (qo_some (qe_un un_neg qe_int))) qa_nil))))) qss_nil) (qss_cons (qs_set (i := 1) sc_qreadleaf.nd rfl (Or.inl rfl) (qe_call G_qreadvalue hr rfl X.m_qreadvalue X.F_qreadvalue.kp X.b_qreadvalue .nil pass_on (qaN (qv 0) qa_nil))) (qss_one (qs_ret (qe_tup (qaC qe_str (qaS (qe_ix ix_tup (qv 1) qe_int (fun _ _ => rfl)) (qaS (qe_ix ix_tup (qv 1) qe_int (fun _ _ => rfl)) qa_nil))))))))))), ?_⟩
  have hzl := tz.1
  have got : ∀ t, Leaf t -> Wf t -> z = sh t -> ∀ v H', Same H H' -> TmIs H' t v -> Q v H' := fun t hl wf e => by
    rcases hor with ⟨t', hl', wf', e', q⟩ | ⟨hn, _⟩
    · have : t = t' := told_is.leaf_inj hl wf hl' wf' (e.symm.trans e')
      subst this
      exact q
    · exact absurd ⟨t, hl, wf, e⟩ hn
  refine ⟨_, rfl, rfl, _, rfl, iteDd (fun h => ⟨(by show 1 <= sizeLine; decide), fun p hp => ?_⟩) (fun h1 => ?_)⟩
  · exact got .mark trivial (by unfold Wf; trivial) (by rw [V.str.inj h]; unfold sh; rfl) _ _ (same_new hp _) (by unfold TmIs; exact ⟨p, rfl, upd_same⟩)
  refine ⟨_, rfl, rfl, _, rfl, iteDd (fun h => ⟨(by show 1 <= sizeLine; decide), fun p hp => ?_⟩) (fun h2 => ?_)⟩
  · exact got .row trivial (by unfold Wf; trivial) (by rw [V.str.inj h]; unfold sh; rfl) _ _ (same_new hp _) (by unfold TmIs; exact ⟨p, rfl, upd_same⟩)
  refine ⟨_, rfl, z, rfl, hzl, fun H1 s1 => ⟨_, rfl, ?_⟩⟩
  cases hnum : numB z with
  | true =>
    obtain ⟨n, ez, wf⟩ := num_iff.mp hnum
    have wf' := wf
    unfold Wf at wf'
    have es : sh (.num n) = Str.ofString (toString n) := by unfold sh; rfl
    have ll := (leaf_len (t := .num n) trivial wf).2
    refine iteT ⟨_, rfl, _, n, rfl, by rw [ez, es]; exact num_reads' wf'.1 (by rw [<- es]; omega), by rw [ez]; omega, (by show 2 <= sizeLine; decide), fun p hp => ?_⟩
    exact got (.num n) trivial wf ez _ _ (s1.trans (same_new hp _)) (by unfold TmIs; exact ⟨p, rfl, upd_same⟩)
  | false =>
  refine iteF ?_
  by_cases hq : isQ z
  · obtain ⟨x, ez, wf⟩ := hq
    have e2 : Txt.slice z (some 1) (some (-1)) = x := by rw [ez]; exact str_ext (inner_list (text_list x))
    refine ⟨_, rfl, z, rfl, hzl, .inl ⟨⟨x, ez, wf⟩, fun H2 s2 => ⟨_, rfl, iteT ?_⟩⟩⟩
    refine ⟨_, rfl, _, rfl, _, rfl, _, rfl, z, rfl, fits2 (by omega), (by show 2 <= sizeLine; decide), fun p hp => ?_⟩
    rw [e2]
    exact got (.text x) trivial wf ez _ _ (s1.trans (s2.trans (same_new hp _))) (by unfold TmIs; exact ⟨p, rfl, upd_same⟩)
  refine ⟨_, rfl, z, rfl, hzl, .inr ⟨hq, fun H2 s2 => ⟨_, rfl, iteF ?_⟩⟩⟩
  by_cases hv : isV z
  · obtain ⟨k, x, ez, wf⟩ := hv
    refine ⟨_, rfl, z, rfl, tz, .inl ⟨k, x, ez, wf, fun p H3 s3 hp => ?_⟩⟩
    refine ⟨_, rfl, p, _, 0, _, rfl, rfl, SqT.of hp, rfl, _, rfl, p, _, 1, _, rfl, rfl, SqT.of hp, rfl, (by show 3 <= sizeLine; decide), fun p2 hp2 => ?_⟩
    exact got (.val k x) trivial wf ez _ _ (s1.trans (s2.trans (s3.trans (same_new hp2 _)))) (by unfold TmIs; exact ⟨p2, rfl, upd_same⟩)
  · refine ⟨_, rfl, z, rfl, tz, .inr ⟨hv, fun H3 s3 => ?_⟩⟩
    rcases hor with ⟨t, hl, wf, e, _⟩ | ⟨_, qe⟩
    · exfalso
      cases t with
      | mark => exact h1 (by rw [e]; unfold sh; rfl)
      | row => exact h2 (by rw [e]; unfold sh; rfl)
      | num n => rw [num_iff.mpr ⟨n, e, wf⟩] at hnum; cases hnum
      | text x => exact hq ⟨x, e, wf⟩
      | val k x => exact hv ⟨k, x, e, wf⟩
      | call _ _ => cases hl
    · exact qe _ (s1.trans (s2.trans s3))
end
end K07
namespace K07
open PySem L2 NS TR
open TM hiding Endd Ms Run Step pcs run_all
mutual
def nsM : Tm -> Ns
  | .call w ts => .n w.cps.toList (nsMs ts)
  | .num n => .n (sh (.num n)).cps.toList []
  | .text z => .n (sh (.text z)).cps.toList []
  | .row => .n (sh .row).cps.toList []
  | .mark => .n (sh .mark).cps.toList []
  | .val k z => .n (sh (.val k z)).cps.toList []
def nsMs : List Tm -> List Ns
  | [] => []
  | t :: ts => nsM t :: nsMs ts
end
theorem nsM_leaf {t : Tm} (h : Leaf t) : nsM t = .n (sh t).cps.toList [] := by cases t with | call _ _ => cases h | _ => rw [nsM]
theorem nsMs_len : ∀ ts : List Tm, (nsMs ts).length = ts.length
  | [] => by rw [nsMs]; rfl
  | t :: ts => by rw [nsMs, List.length_cons, List.length_cons, nsMs_len ts]
mutual
theorem txt_M : ∀ t : Tm, Wf t -> txt 44 (nsM t) = (sh t).cps.toList
  | .call w ts, h => by
    unfold Wf at h
    obtain ⟨_, hn, _, hw⟩ := h
    rw [call_list, nsM, txt]
    congr 1
    cases ts with
    | nil => exact absurd rfl hn
    | cons t ts =>
      unfold Wfs at hw
      rw [nsMs, brk, txt_M t hw.1, txts_M ts hw.2, joined_cons, List.append_assoc]
  | .num n, _ => by rw [nsM, txt, brk, List.append_nil]
  | .text z, _ => by rw [nsM, txt, brk, List.append_nil]
  | .row, _ => by rw [nsM, txt, brk, List.append_nil]
  | .mark, _ => by rw [nsM, txt, brk, List.append_nil]
  | .val k z, _ => by rw [nsM, txt, brk, List.append_nil]
theorem txts_M : ∀ ts : List Tm, Wfs ts -> txts 44 (nsMs ts) = ((ts.map sh).map fun z => 44 :: z.cps.toList).flatten
  | [], _ => by rw [nsMs, txts]; rfl
  | t :: ts, h => by
    unfold Wfs at h
    rw [nsMs, txts, txt_M t h.1, txts_M ts h.2, List.map_cons, List.map_cons, List.flatten_cons]
    rfl
end
theorem cl_leaf {t : Tm} (h : Leaf t) (w : Wf t) : Cl 44 (nsM t) := by
  rw [nsM_leaf h]
  exact .n (leaf_stop h w) (fun i hi => nomatch hi)
mutual
theorem cl_M : ∀ t : Tm, Wf t -> Cl 44 (nsM t)
  | .call w ts, h => by
    unfold Wf at h
    rw [nsM]
    exact .n (deed_stop w h.1) (cl_Ms ts h.2.2.2)
  | .num n, h => cl_leaf trivial h
  | .text z, h => cl_leaf trivial h
  | .row, h => cl_leaf trivial h
  | .mark, h => cl_leaf trivial h
  | .val k z, h => cl_leaf trivial h
theorem cl_Ms : ∀ ts : List Tm, Wfs ts -> ∀ i ∈ nsMs ts, Cl 44 i
  | [], _, i, hi => by rw [nsMs] at hi; cases hi
  | t :: ts, h, i, hi => by
    unfold Wfs at h
    rw [nsMs] at hi
    rcases List.mem_cons.mp hi with e | hi
    · rw [e]; exact cl_M t h.1
    · exact cl_Ms ts h.2 i hi
end
theorem many_leaf {t : Tm} (h : Leaf t) : ((many (nsM t) : Nat) : Int) = parts t := by rw [nsM_leaf h, many, manys, parts_leaf h]; rfl
mutual
theorem many_M : ∀ t : Tm, ((many (nsM t) : Nat) : Int) = parts t
  | .call w ts => by
    rw [nsM, many, parts]
    have := many_Ms ts
    omega
  | .num n => many_leaf trivial
  | .text z => many_leaf trivial
  | .row => many_leaf trivial
  | .mark => many_leaf trivial
  | .val k z => many_leaf trivial
theorem many_Ms : ∀ ts : List Tm, ((manys (nsMs ts) : Nat) : Int) = partss ts
  | [] => by rw [nsMs, manys, partss]; rfl
  | t :: ts => by
    rw [nsMs, manys, partss]
    have := many_M t
    have := many_Ms ts
    omega
end
theorem lev_leaf {t : Tm} (h : Leaf t) {l : Nat} {x : Row} (hx : x ∈ rws l (nsM t)) : x.2.2 + 1 <= l + depth t := by
  rw [nsM_leaf h, rws, rwss, List.nil_append] at hx
  rw [List.mem_singleton.mp hx, depth_leaf h]
  exact Nat.le_refl _
mutual
theorem lev_M : ∀ (t : Tm) {l : Nat} {x : Row}, x ∈ rws l (nsM t) -> x.2.2 + 1 <= l + depth t
  | .call w ts, l, x, h => by
    rw [nsM, rws] at h
    rw [depth]
    rcases List.mem_append.mp h with h | h
    · have := lev_Ms ts h
      omega
    · rw [List.mem_singleton.mp h]
      show l + 1 <= _
      omega
  | .num n, l, x, h => lev_leaf (t := .num n) trivial h
  | .text z, l, x, h => lev_leaf (t := .text z) trivial h
  | .row, l, x, h => lev_leaf (t := .row) trivial h
  | .mark, l, x, h => lev_leaf (t := .mark) trivial h
  | .val k z, l, x, h => lev_leaf (t := .val k z) trivial h
theorem lev_Ms : ∀ (ts : List Tm) {l : Nat} {x : Row}, x ∈ rwss l (nsMs ts) -> x.2.2 + 1 <= l + depths ts
  | [], l, x, h => by rw [nsMs, rwss] at h; cases h
  | t :: ts, l, x, h => by
    rw [nsMs, rwss] at h
    rw [depths]
    rcases List.mem_append.mp h with h | h
    · have := lev_M t h
      omega
    · have := lev_Ms ts h
      omega
end
def RunM : List Tm -> List Row -> List Tm -> Prop
  | S, [], S' => S = S'
  | S, x :: rs, S' => ∃ S0 ts t, S = S0 ++ ts /\ ts.length = x.2.1 /\ Wf t /\ ((ts = [] /\ Leaf t /\ x.1 = sh t) \/ (ts ≠ [] /\ t = .call x.1 ts)) /\ RunM (S0 ++ [t]) rs S'
theorem runM_leaf {t : Tm} (hl : Leaf t) (hw : Wf t) (l : Nat) (S S' : List Tm) (rs : List Row) (g : RunM (S ++ [t]) rs S') : RunM S (rws l (nsM t) ++ rs) S' := by
  rw [nsM_leaf hl, rws, rwss, List.nil_append, List.cons_append, List.nil_append]
  exact ⟨S, [], t, by rw [List.append_nil], rfl, hw, .inl ⟨rfl, hl, (mk_eq rfl).symm⟩, g⟩
mutual
theorem runM_one : ∀ (t : Tm), Wf t -> ∀ (l : Nat) (S S' : List Tm) (rs : List Row), RunM (S ++ [t]) rs S' -> RunM S (rws l (nsM t) ++ rs) S'
  | .call w ts, h, l, S, S', rs, g => by
    have h' := h
    unfold Wf at h'
    rw [nsM, rws, List.append_assoc]
    refine runM_some ts h'.2.2.2 (l + 1) S S' _ ?_
    rw [List.cons_append, List.nil_append]
    have e : mkS w.cps.toList = w := (mk_eq rfl).symm
    exact ⟨S, ts, .call w ts, rfl, (nsMs_len ts).symm, h, .inr ⟨h'.2.1, by rw [e]⟩, g⟩
  | .num n, h, l, S, S', rs, g => runM_leaf (t := .num n) trivial h l S S' rs g
  | .text z, h, l, S, S', rs, g => runM_leaf (t := .text z) trivial h l S S' rs g
  | .row, h, l, S, S', rs, g => runM_leaf (t := .row) trivial h l S S' rs g
  | .mark, h, l, S, S', rs, g => runM_leaf (t := .mark) trivial h l S S' rs g
  | .val k z, h, l, S, S', rs, g => runM_leaf (t := .val k z) trivial h l S S' rs g
theorem runM_some : ∀ (ts : List Tm), Wfs ts -> ∀ (l : Nat) (S S' : List Tm) (rs : List Row), RunM (S ++ ts) rs S' -> RunM S (rwss l (nsMs ts) ++ rs) S'
  | [], h, l, S, S', rs, g => by
    rw [nsMs, rwss, List.nil_append]
    rw [List.append_nil] at g
    exact g
  | t :: ts, h, l, S, S', rs, g => by
    unfold Wfs at h
    rw [nsMs, rwss, List.append_assoc]
    refine runM_one t h.1 l S S' _ ?_
    refine runM_some ts h.2 l (S ++ [t]) S' rs ?_
    rw [List.append_assoc]
    exact g
end
theorem runM_all {t : Tm} (h : Wf t) : RunM [] (rws 1 (nsM t)) [t] := by
  have := runM_one t h 1 [] [t] [] rfl
  rw [List.append_nil] at this
  exact this
theorem tms_of {H : Hp} : ∀ {ts : List Tm} {vs : List V}, L2R (TmIs H) ts vs -> TmsIs H ts vs
  | _, _, .nil => by unfold TmsIs; rfl
  | _, _, .cons x y => by unfold TmsIs; exact ⟨_, _, rfl, x, tms_of y⟩
theorem _root_.TM.L2R.unapp {α : Type} {R : α -> V -> Prop} : ∀ {as bs : List α} {vs : List V}, L2R R (as ++ bs) vs -> ∃ xs ys, vs = xs ++ ys /\ L2R R as xs /\ L2R R bs ys
  | [], bs, vs, h => ⟨[], vs, rfl, .nil, h⟩
  | a :: as, bs, _, .cons h1 h2 => by
    obtain ⟨xs, ys, e, g1, g2⟩ := TM.L2R.unapp h2
    exact ⟨_ :: xs, ys, by rw [e]; rfl, .cons h1 g1, g2⟩
def hg : Nat -> List Row -> Option Nat
  | n, [] => some n
  | n, x :: rs => if x.2.1 <= n then hg (n - x.2.1 + 1) rs else none
theorem hg_snoc (x : Row) : ∀ (rs : List Row) (n : Nat), hg n (rs ++ [x]) = (hg n rs).bind fun m => if x.2.1 <= m then some (m - x.2.1 + 1) else none
  | [], n => by simp [hg]
  | y :: rs, n => by
    rw [List.cons_append, hg, hg]
    split
    · exact hg_snoc x rs _
    · rfl
def JJ (st : Ms) : Prop := ∃ m, hg 0 st.rs = some m /\ (st.op.map (·.2)).sum + (if st.cl = true then 1 else 0) <= m
theorem jj_end {st : Ms} {w : Str} {rs : List Row} (j : JJ st) (h : Endd st w rs) : ∃ m, hg 0 rs = some m /\ (st.op.map (·.2)).sum + 1 <= m := by
  obtain ⟨m, h1, h2⟩ := j
  cases h with
  | word =>
    have h1 : hg 0 _ = some m := h1
    refine ⟨m + 1, by rw [hg_snoc, h1]; simp, ?_⟩
    simp at h2 ⊢
    omega
  | again => exact ⟨m, h1, by simpa using h2⟩
theorem jj_step {st st1 : Ms} {p : Str × Str} (j : JJ st) (h : NS.Step 44 st p st1) : JJ st1 := by
  obtain ⟨w, s⟩ := p
  rcases step_inv h with ⟨_, c, rfl⟩ | ⟨rs', op, o, c, e, d, ⟨_, rfl⟩ | ⟨_, rfl⟩⟩ | ⟨rs', d, _, rfl⟩
  · obtain ⟨m, h1, h2⟩ := j
    rw [c] at h2
    exact ⟨m, h1, by simpa using h2⟩
  · obtain ⟨m, h1, h2⟩ := jj_end j d
    rw [e] at h2
    refine ⟨m, h1, ?_⟩
    simp at h2 ⊢
    omega
  · obtain ⟨m, h1, h2⟩ := jj_end j d
    rw [e] at h2
    simp at h2
    refine ⟨m - (c + 1) + 1, ?_, ?_⟩
    · show hg 0 (rs' ++ [(o, c + 1, op.length + 1)]) = _
      rw [hg_snoc, h1]
      show (if c + 1 <= m then _ else _) = _
      rw [if_pos (by omega)]
    · simp
      omega
  · obtain ⟨m, h1, h2⟩ := jj_end j d
    refine ⟨m, h1, ?_⟩
    show (st.op.map (·.2)).sum + (if st.cl = true then 1 else 0) <= m
    split <;> omega
theorem jj_run {a b : Ms} {ps : List (Str × Str)} : JJ a -> NS.Run 44 a ps b -> JJ b := by
  induction ps generalizing a with
  | nil => intro j h; have h : a = b := h; subst h; exact j
  | cons x xs ih => rintro j ⟨d, h, g⟩; exact ih (jj_step j h) g
theorem jj_ini : JJ ini := ⟨0, rfl, by simp⟩
theorem endd_ww {st : Ms} {w : Str} {rs : List Row} (h : Endd st w rs) (hw : TxOk w) (hr : ∀ x ∈ st.rs, TxOk x.1) : ∀ x ∈ rs, TxOk x.1 := by
  cases h with
  | word =>
    intro x hx
    rcases List.mem_append.mp hx with h | h
    · exact hr x h
    · rw [List.mem_singleton.mp h]; exact hw
  | again => exact hr
def WW (st : Ms) : Prop := (∀ x ∈ st.rs, TxOk x.1) /\ ∀ x ∈ st.op, TxOk x.1
theorem ww_ini : WW ini := ⟨fun x hx => absurd (show x ∈ ([] : List Row) from hx) List.not_mem_nil, fun x hx => absurd (show x ∈ ([] : List (Str × Nat)) from hx) List.not_mem_nil⟩
theorem ww_step {st st1 : Ms} {p : Str × Str} (j : WW st) (hp : TxOk p.1) (h : NS.Step 44 st p st1) : WW st1 := by
  obtain ⟨w, s⟩ := p
  rcases step_inv h with ⟨_, c, rfl⟩ | ⟨rs', op, o, c, e, d, ⟨_, rfl⟩ | ⟨_, rfl⟩⟩ | ⟨rs', d, _, rfl⟩
  · refine ⟨j.1, fun x hx => ?_⟩
    rcases List.mem_append.mp hx with h | h
    · exact j.2 x h
    · rw [List.mem_singleton.mp h]; exact hp
  · have j2 := j.2
    rw [e] at j2
    refine ⟨endd_ww d hp j.1, fun x hx => ?_⟩
    rcases List.mem_append.mp hx with h | h
    · exact j2 x (List.mem_append.mpr (.inl h))
    · rw [List.mem_singleton.mp h]; exact j2 (o, c) (List.mem_append.mpr (.inr (by simp)))
  · have j2 := j.2
    rw [e] at j2
    refine ⟨fun x hx => ?_, fun x hx => j2 x (List.mem_append.mpr (.inl hx))⟩
    rcases List.mem_append.mp hx with h | h
    · exact endd_ww d hp j.1 x h
    · rw [List.mem_singleton.mp h]; exact j2 (o, c) (List.mem_append.mpr (.inr (by simp)))
  · exact ⟨endd_ww d hp j.1, j.2⟩
theorem ww_run {a b : Ms} {ps : List (Str × Str)} : WW a -> (∀ p ∈ ps, TxOk p.1) -> NS.Run 44 a ps b -> WW b := by
  induction ps generalizing a with
  | nil => intro j _ h; have h : a = b := h; subst h; exact j
  | cons x xs ih => rintro j hp ⟨d, h, g⟩; exact ih (ww_step j (hp x (by simp)) h) (fun p hx => hp p (by simp [hx])) g
theorem len_run {a b : Ms} {ps : List (Str × Str)} : NS.Run 44 a ps b -> b.rs.length <= a.rs.length + 2 * ps.length := by
  induction ps generalizing a with
  | nil => intro h; have h : a = b := h; subst h; simp
  | cons x xs ih =>
    rintro ⟨d, h, g⟩
    have w1 := (NS.step_wt h).1
    have := ih g
    rw [List.length_cons]
    omega
theorem pcs_tx {z : Str} (hz : TxOk z) : ∀ p ∈ NS.pcs 44 [] z.cps.toList, TxOk p.1 := fun p hp => by
  obtain ⟨a, b, c⟩ := pcs_in hp
  have hl0 := hz.1
  refine ⟨by rw [len_list]; rw [len_list] at hl0; simp at b hl0 ⊢; omega, fun x hx => ?_⟩
  rcases a x hx with h | h
  · cases h
  · exact hz.2 x h
theorem hg_cons {n m : Nat} {x : Row} {rs : List Row} (h : hg n (x :: rs) = some m) : x.2.1 <= n /\ hg (n - x.2.1 + 1) rs = some m := by
  rw [hg] at h
  split at h
  · rename_i h1; exact ⟨h1, h⟩
  · cases h
theorem lev_mlf {t : Tm} (h : Leaf t) (l : Nat) : ∃ x ∈ rws l (nsM t), x.2.2 + 1 = l + depth t := by
  rw [nsM_leaf h, rws, rwss, depth_leaf h]
  exact ⟨_, List.mem_append.mpr (.inr (List.mem_singleton.mpr rfl)), rfl⟩
mutual
theorem lev_max : ∀ (t : Tm) (l : Nat), ∃ x ∈ rws l (nsM t), x.2.2 + 1 = l + depth t
  | .call w ts, l => by
    rw [nsM, rws, depth]
    by_cases h : ts = []
    · subst h
      exact ⟨_, List.mem_append.mpr (.inr (List.mem_singleton.mpr rfl)), by show l + 1 = l + (1 + depths []); rw [depths]⟩
    · obtain ⟨x, hx, e⟩ := lev_maxs ts (l + 1) h
      exact ⟨x, List.mem_append.mpr (.inl hx), by omega⟩
  | .num n, l => lev_mlf (t := .num n) trivial l
  | .text z, l => lev_mlf (t := .text z) trivial l
  | .row, l => lev_mlf (t := .row) trivial l
  | .mark, l => lev_mlf (t := .mark) trivial l
  | .val k z, l => lev_mlf (t := .val k z) trivial l
theorem lev_maxs : ∀ (ts : List Tm) (l : Nat), ts ≠ [] -> ∃ x ∈ rwss l (nsMs ts), x.2.2 + 1 = l + depths ts
  | [], _, h => absurd rfl h
  | t :: ts, l, _ => by
    rw [nsMs, rwss, depths]
    by_cases h : ts = []
    · subst h
      obtain ⟨x, hx, e⟩ := lev_max t l
      exact ⟨x, List.mem_append.mpr (.inl hx), by rw [depths]; omega⟩
    · obtain ⟨x, hx, e⟩ := lev_max t l
      obtain ⟨y, hy, f⟩ := lev_maxs ts l h
      by_cases g : depth t <= depths ts
      · exact ⟨y, List.mem_append.mpr (.inr hy), by omega⟩
      · exact ⟨x, List.mem_append.mpr (.inl hx), by omega⟩
end
def spCallM (N : Addr) : Sp := fun vs H Q E => ∃ (d : Str) (a : Addr) (us : List V), vs = [.str d, .ref a] /\ TxOk d /\ H a = some (.tup us) /\ us.length <= 50000 /\ (((d ∈ deeds /\ us.length <= 3) /\ ∀ p H', Same H H' -> H' p = some (.tup [.str "call", .str d, .ref a]) -> Q (.ref p) H') \/ (¬ (d ∈ deeds /\ us.length <= 3) /\ ∀ H', Same H H' -> E (.ref N) none H'))
def spRead (N G : Addr) : Sp := fun vs H Q E => ∃ z : Str, vs = [.str z] /\ TxOk z /\ ((∃ t, z = sh t /\ Wf t /\ parts t <= 100 /\ (parts t <= 30 -> depth t <= 6 -> ∀ v H', Same H H' -> TmIs H' t v -> Q v H') /\ ((30 < parts t \/ 6 < depth t) -> ∀ H', Same H H' -> E (.ref G) none H')) \/ (Bad z /\ ∀ H', Same H H' -> E (.ref N) none H'))
theorem sh_tx {t : Tm} (h : Wf t) (hz : parts t <= 100) : TxOk (sh t) := ⟨by have := sh_len t h; omega, sh_asc t h⟩
section
variable {P : Program} {w : World} {K : PySem.W.Frag} {mg : Str -> Option Value} {base : Heap} {T : Adr}
theorem ok_callM (X : Tx K w mg T) : FnOk P w K mg base (CXe P w) 2 T.qmadecall T.d_qmadecall ["deed", "terms"] (spCallM T.k_NoText) := by
  have G_qisdeed := ok_deed (P := P) (w := w) (base := base) X
  refine X.F_qmadecall.okE sc_qmadecall (fun vs H Q E h => ?_) (fun cdv A outer s H vs Q E hr h => ?_)
  · obtain ⟨_, _, _, rfl, _⟩ := h
    rfl
  obtain ⟨d, a, us, rfl, td, ha, hl, hor⟩ := h
  refine ⟨_, (qss_cons (qs_if (qt_not (qt_val (qe_call G_qisdeed hr rfl X.m_qisdeed X.F_qisdeed.kp X.b_qisdeed .nil pass0 (qaN (qv 0) qa_nil)))) (qss_one (qs_raise rfl rfl X.m_NoText X.e_NoText (qaJ (qe_join (qj_cons qe_str (qj_cons (qe_rep hr (qv 0)) qj_nil))) qa_nil) xe_raise)) qss_nil) (qss_cons (qs_if (qt_cmpR op_gt (qe_callB call_len_seq rfl X.z_len PySem.boot_len (qaN (qv 1) qa_nil)) (qe_glob rfl X.c_MOST_TERMS (v := V.int 3) ⟨_, rfl⟩) (nomark _)) (qss_one (qs_raise rfl rfl X.m_NoText X.e_NoText (qaJ (qe_join (qj_cons qe_str (qj_cons (qe_fmt (qe_glob rfl X.c_MOST_TERMS (v := V.int 3) ⟨_, rfl⟩)) (qj_cons qe_str qj_nil)))) qa_nil) xe_raise)) qss_nil) (qss_one (qs_ret (qe_tup (qaC qe_str (qaN (qv 0) (qaN (qv 1) qa_nil)))))))), ?_⟩
  have ls := shown_str td
  have e0 : Str.empty.length = 0 := rfl
  have l1 : (Str.ofString "there is no deed ").length = 17 := by decide
  have hsz : sizeLine = 16777216 := by decide
  refine ⟨_, rfl, d, rfl, _, rfl, ?_⟩
  have no : ¬ (d ∈ deeds /\ us.length <= 3) -> ∀ H', Same H H' -> E (.ref T.k_NoText) none H' := fun hn => by
    rcases hor with ⟨h, _⟩ | ⟨_, q⟩
    · exact absurd h hn
    · exact q
  by_cases hd : d ∈ deeds
  · rw [decide_eq_true hd]
    refine iteF ⟨_, rfl, a, us, rfl, .inr (SqT.of ha), _, _, rfl, rfl, _, rfl, iteDd (fun h => ?_) (fun h => ?_)⟩
    · exact ⟨_, rfl, fits2 (by decide +kernel), .inr ⟨3, rfl, small_log (by decide) (by decide), _, rfl, fits2 (by decide +kernel), _, rfl, fits2 (by decide +kernel), (by show 1 <= 10; decide), no (fun g => by omega) _ (Same.refl _)⟩⟩
    · refine ⟨_, rfl, _, rfl, (by show 3 <= sizeLine; decide), fun p hp => ?_⟩
      rcases hor with ⟨_, q⟩ | ⟨hn, _⟩
      · exact q p _ (same_new hp _) upd_same
      · exact absurd ⟨hd, by omega⟩ hn
  · rw [decide_eq_false hd]
    exact iteT ⟨_, rfl, by rw [app_len, e0, l1]; omega, _, rfl, .str _, .str _, by simp only [PyData.showable], by simp only [PyData.hasDict], by simp only [PyData.depth]; decide, by omega, _, rfl, by rw [app_len, app_len, e0, l1]; omega, (by show 1 <= 10; decide), no (fun g => hd g.1) _ (Same.refl _)⟩
theorem ok_read (X : Tx K w mg T) : FnOk P w K mg base (CXe P w) 6 T.qreadterm T.d_qreadterm ["text"] (spRead T.k_NoText T.k_TooGreat) := by
  have G_qnestrows := (ok_nest (P := P) (w := w) (base := base) X).mono (show 4 <= 5 by decide)
  have G_qtakenoff := (ok_take (P := P) (w := w) (base := base) X).mono (show 1 <= 5 by decide)
  have G_qmadecall := (ok_callM (P := P) (w := w) (base := base) X).mono (show 2 <= 5 by decide)
  have G_qreadleaf := (ok_leafR (P := P) (w := w) (base := base) X).mono (show 4 <= 5 by decide)
  have G_qdeepest := (ok_deep (P := P) (w := w) (base := base) X).mono (show 1 <= 5 by decide)
  refine X.F_qreadterm.okE sc_qreadterm (fun vs H Q E h => ?_) (fun cdv A outer s H vs Q E hr h => ?_)
  · obtain ⟨_, rfl, _⟩ := h
    rfl
  obtain ⟨z, rfl, tz, hor⟩ := h
  refine ⟨_, (qss_cons (qs_set (i := 1) sc_qreadterm.nd rfl (Or.inl rfl) (qe_call G_qnestrows hr rfl X.m_qnestrows X.F_qnestrows.kp X.b_qnestrows .nil pass_on (qaN (qv 0) (qaC qe_str qa_nil)))) (qss_cons (qs_set (i := 2) sc_qreadterm.nd rfl (Or.inl rfl) (qe_lst qa_nil)) (qss_cons (qs_for PassesOwn.leaving rfl (qi_list (qv 1)) (qg_tup rfl (qgs_cons (qg_name (i := 3) sc_qreadterm.nd rfl (Or.inl rfl)) (qgs_cons (qg_name (i := 4) sc_qreadterm.nd rfl (Or.inl rfl)) (qgs_cons (qg_name (i := 5) sc_qreadterm.nd rfl (Or.inl rfl)) qgs_nil)))) (qss_cons (qs_set (i := 6) sc_qreadterm.nd rfl (Or.inl rfl) (qe_call G_qtakenoff hr rfl X.m_qtakenoff X.F_qtakenoff.kp X.b_qtakenoff .nil pass0 (qaN (qv 2) (qaN (qv 4) qa_nil)))) (qss_one (qs_expr (qe_bm PySem.F.plainAttrs_list PySem.F.slot_list_append PySem.F.type_list_append mt_append (qv 2) (qaI (qe_ifExp (qt_truth (qv 6) (fun _ => rfl)) (qe_call G_qmadecall hr rfl X.m_qmadecall X.F_qmadecall.kp X.b_qmadecall .nil pass_on (qaN (qv 3) (qaN (qv 6) qa_nil))) (qe_call G_qreadleaf hr rfl X.m_qreadleaf X.F_qreadleaf.kp X.b_qreadleaf .nil pass_on (qaN (qv 3) qa_nil))) qa_nil)))))) (qss_cons (qs_if (qw_pt (qw_or (qt_cmpR op_gt (qe_callB call_len_seq rfl X.z_len PySem.boot_len (qaN (qv 1) qa_nil)) (qe_glob rfl X.c_MOST_PARTS (v := V.int 30) ⟨_, rfl⟩) (nomark _)) (qw_or1 (qt_cmpR op_gt (qe_call G_qdeepest hr rfl X.m_qdeepest X.F_qdeepest.kp X.b_qdeepest .nil pass0 (qaN (qv 1) qa_nil)) (qe_glob rfl X.c_MOST_DEPTH (v := V.int 6) ⟨_, rfl⟩) (nomark _))))) (qss_one (qs_raise rfl rfl X.m_TooGreat X.e_TooGreat (qaJ (qe_join (qj_cons qe_str (qj_cons (qe_fmt (qe_glob rfl X.c_MOST_PARTS (v := V.int 30) ⟨_, rfl⟩)) (qj_cons qe_str (qj_cons (qe_fmt (qe_glob rfl X.c_MOST_DEPTH (v := V.int 6) ⟨_, rfl⟩)) qj_nil))))) qa_nil) xe_raise)) qss_nil) (qss_one (qs_ret (qe_ix ix_list (qv 2) qe_int (fun _ _ => rfl)))))))), ?_⟩
  rcases hor with ⟨t, ez, wf, hz, q, qg⟩ | ⟨bad, qe⟩
  · have el : z.cps.toList = txt 44 (nsM t) := by rw [ez]; exact (txt_M t wf).symm
    have run := runM_all wf
    have lrw : (((rws 1 (nsM t)).length : Nat) : Int) = parts t := by rw [rws_len]; exact many_M t
    have lvl : ∀ x ∈ rws 1 (nsM t), x.2.2 <= depth t := fun x hx => by have := lev_M t hx; omega
    have lmx : ∃ x ∈ rws 1 (nsM t), x.2.2 = depth t := by
      obtain ⟨x, hx, e⟩ := lev_max t 1
      exact ⟨x, hx, by omega⟩
    obtain ⟨cl, rall⟩ := NS.run_all (cl_M t wf)
    rw [<- el] at rall
    refine ⟨_, rfl, z, rfl, tz, (fun st hst hop D us H1 s1 nD hD hrs => ?_), fun hno => absurd rfl (hno _ rall)⟩
    have est := run_det hst rall
    subst est
    have hrs : L2R (RwIs H1) (rws 1 (nsM t)) us := hrs
    have lus := hrs.len
    generalize rws 1 (nsM t) = rows at hrs lus run lrw lvl lmx
    have pp := parts_pos t
    refine ⟨(by show 0 <= sizeLine; decide), fun r hr' => ?_⟩
    have s2 := same_new hr' (.lst [])
    refine ⟨_, rfl, D, rfl, ⟨_, SqL.of (s2 _ _ hD)⟩, for_list (K := K) (a := D) (xs := us) (fun j σ H' => (∃ x3 x4 x5 x6, σ = [some (.str z), some (.ref D), some (.ref r), x3, x4, x5, x6]) /\ Same H1 H' /\ ∃ S vs, H' r = some (.lst vs) /\ L2R (TmIs H') S vs /\ RunM S (rows.drop j) [t] /\ S.length <= j)
      ⟨⟨none, none, none, none, rfl⟩, s2, [], [], upd_same, .nil, run, Nat.le_refl _⟩ (fun j σ H' _ ⟨_, sm, _⟩ => SqL.of (sm _ _ hD)) ?_ ?_⟩
    · rintro j y σ H' hy ⟨⟨x3, x4, x5, x6, rfl⟩, sm, S, vs, hr1, hS, hrun, hlen⟩
      obtain ⟨x, hx, a, rfl, ha⟩ := hrs.get hy
      have hj := lt_of_some hy
      obtain ⟨hj2, ex⟩ := List.getElem?_eq_some_iff.mp hx
      rw [List.drop_eq_getElem_cons hj2, ex] at hrun
      obtain ⟨S0, ts, t', rfl, hts, hwt, hor, hrun1⟩ := hrun
      obtain ⟨xs, ys, rfl, g1, g2⟩ := hS.unapp
      have ly := g2.len
      have lx := g1.len
      rw [List.length_append] at hlen
      refine ⟨a, _, rfl, SqT.of (sm _ _ ha), rfl, _, _, rfl, _, _, rfl, _, _, rfl, rfl, ?_⟩
      refine ⟨_, rfl, _, rfl, r, x.2.1, xs, ys, rfl, hr1, by omega, by omega, fun tb H2 sh_ h2r h2t => ?_⟩
      have tt : SameT H' H2 := fun b zs e => sh_ b _ (by rw [hide_ne (ne_of e hr1 (fun z => nomatch z))]; exact e)
      have s12 : Same H1 H2 := fun b o e => by
        have nb : b ≠ r := ne_of_none e hr'
        exact sh_ b o (by rw [hide_ne nb]; exact sm _ _ e)
      have fin : ∀ (v : V) (H5 : Hp), Same H2 H5 -> TmIs H5 t' v -> (upd H5 r (.lst (xs ++ [v]))) r = some (.lst (xs ++ [v])) /\ Same H1 (upd H5 r (.lst (xs ++ [v]))) /\ L2R (TmIs (upd H5 r (.lst (xs ++ [v])))) (S0 ++ [t']) (xs ++ [v]) := fun v H5 s25 hv => by
        have hr5 := s25 _ _ h2r
        have tL : SameT H5 (upd H5 r (.lst (xs ++ [v]))) := sameT_lst hr5
        exact ⟨upd_same, same_upd hr' (s12.trans s25), (g1.imp fun _ _ h => TmIs.same (tt.trans ((sameT s25).trans tL)) _ h).snoc (TmIs.same tL t' hv)⟩
      rcases hor with ⟨rfl, hleaf, hwd⟩ | ⟨hn, rfl⟩
      · have hy0 : ys = [] := g2.nil_of
        subst hy0
        have ltx : TxOk x.1 := by rw [hwd]; exact sh_tx hwt (by rw [parts_leaf hleaf]; decide)
        refine ⟨_, rfl, .inl ⟨rfl, _, SqL.of h2r⟩, _, rfl, false, (.inr (.inl ⟨_, SqT.of h2t, rfl⟩)), iteF ⟨_, rfl, x.1, rfl, ltx, .inl ⟨t', hleaf, hwt, hwd, fun v H5 s25 hv => ?_⟩⟩⟩
        obtain ⟨f1, f2, f3⟩ := fin v H5 s25 hv
        exact ⟨r, xs, v, rfl, rfl, s25 _ _ h2r, fitsL (by omega), ⟨_, _, _, _, rfl⟩, f2, _, _, f1, f3, hrun1, by rw [List.length_append, List.length_singleton]; omega⟩
      · have hyn : ys ≠ [] := fun z => hn (by rw [z] at ly; exact List.length_eq_zero_iff.mp ly.symm)
        have hwf := hwt
        unfold Wf at hwf
        have l3 := hwf.2.2.1
        have dtx : TxOk x.1 := ⟨by rw [len_list]; have := deed_len x.1 hwf.1; omega, deed_asc x.1 hwf.1⟩
        refine ⟨_, rfl, .inl ⟨rfl, _, SqL.of h2r⟩, _, rfl, true, (.inr (.inl ⟨_, SqT.of h2t, by cases ys with | nil => exact absurd rfl hyn | cons a b => rfl⟩)), iteT ⟨_, rfl, _, rfl, x.1, tb, ys, rfl, dtx, h2t, by omega, .inl ⟨⟨hwf.1, by omega⟩, fun p H5 s25 hp => ?_⟩⟩⟩
        have hv : TmIs H5 (.call x.1 ts) (.ref p) := by
          unfold TmIs
          exact ⟨p, tb, ys, rfl, hp, s25 _ _ h2t, by omega, tms_of (g2.imp fun _ _ h => TmIs.same (tt.trans (sameT s25)) _ h)⟩
        obtain ⟨f1, f2, f3⟩ := fin _ H5 s25 hv
        exact ⟨r, xs, _, rfl, rfl, s25 _ _ h2r, fitsL (by omega), ⟨_, _, _, _, rfl⟩, f2, _, _, f1, f3, hrun1, by rw [List.length_append, List.length_singleton]; omega⟩
    · rintro σ H' ⟨⟨x3, x4, x5, x6, rfl⟩, sm, S, vs, hr1, hS, hrun, hlen⟩
      rw [List.drop_eq_nil_of_le (by omega)] at hrun
      have e : S = [t] := hrun
      subst e
      obtain ⟨v, r', rfl, hv, hnil⟩ := hS.inv_cons
      have := hnil.nil_of
      subst this
      unfold tNext
      dsimp only
      refine seq_ifS_by (fun H2 => Same H1 H2 /\ (30 < parts t \/ 6 < depth t)) (fun H2 => Same H1 H2 /\ H2 r = some (.lst [v]) /\ TmIs H2 t v /\ parts t <= 30 /\ depth t <= 6) (fun Q' qT qF => ?_) (fun H2 ⟨s3, hgr⟩ => ?_) (fun H2 ⟨s3, hr2, hv2, h60, h20⟩ => ?_)
      · refine ⟨_, rfl, D, _, rfl, .inl (SqL.of (sm _ _ hD)), _, _, rfl, rfl, _, rfl, iteDd (fun h => qT H' ⟨sm, .inl (by omega)⟩) (fun h => ?_)⟩
        refine ⟨_, rfl, D, us, rows, rfl, sm _ _ hD, hrs.imp fun _ _ => RwIs.same (sameT sm), (fun z => by rw [z] at lrw; have : (0 : Int) = parts t := lrw; omega), by omega, fun M H2 hM hB s3 => ?_⟩
        refine ⟨_, _, rfl, rfl, _, rfl, ?_⟩
        obtain ⟨x, hx, eM⟩ := hM
        obtain ⟨y, hy, ey⟩ := lmx
        have b1 := lvl x hx
        have b2 := hB y hy
        by_cases hM : 6 < M
        · rw [decide_eq_true hM]
          exact qT H2 ⟨sm.trans s3, .inr (by omega)⟩
        · rw [decide_eq_false hM]
          exact qF H2 ⟨sm.trans s3, s3 _ _ hr1, TmIs.same (sameT s3) t hv, by omega, by omega⟩
      · exact ⟨_, rfl, fits2 (by decide +kernel), .inr ⟨30, rfl, small_log (by decide) (by decide), _, rfl, fits2 (by decide +kernel), _, rfl, fits2 (by decide +kernel), .inr ⟨6, rfl, small_log (by decide) (by decide), _, rfl, fits2 (by decide +kernel), (by show 1 <= 10; decide), qg hgr _ (s1.trans s3)⟩⟩⟩
      · exact ⟨_, rfl, r, _, 0, _, rfl, rfl, SqL.of hr2, rfl, q h60 h20 v H2 (s1.trans s3) hv2⟩
  · refine ⟨_, rfl, z, rfl, tz, (fun st hst hop D us H1 s1 nD hD hrs => ?_), fun hno => qe⟩
    obtain ⟨x0, hx0, ebad⟩ := bad st hst hop
    obtain ⟨m, hm, _⟩ := jj_run jj_ini hst
    have ww := (ww_run ww_ini (pcs_tx tz) hst).1
    have lr := len_run hst
    have lp := NS.pcs_len 44 z.cps.toList []
    have lz := tz.1
    rw [len_list] at lz
    have lrs : st.rs.length <= 40010 := by
      have e : (ini : Ms).rs.length = 0 := rfl
      rw [e] at lr
      omega
    have lus := hrs.len
    generalize st.rs = rows at hrs lus hm ww lrs hx0
    refine ⟨(by show 0 <= sizeLine; decide), fun r hr' => ?_⟩
    have s2 := same_new hr' (.lst [])
    refine ⟨_, rfl, D, rfl, ⟨_, SqL.of (s2 _ _ hD)⟩, for_list (K := K) (a := D) (xs := us) (fun j σ H' => (∃ x3 x4 x5 x6, σ = [some (.str z), some (.ref D), some (.ref r), x3, x4, x5, x6]) /\ Same H1 H' /\ ∃ vs, H' r = some (.lst vs) /\ hg vs.length (rows.drop j) = some m /\ vs.length <= j /\ ∀ x ∈ rows.take j, rowG x)
      ⟨⟨none, none, none, none, rfl⟩, s2, [], upd_same, hm, Nat.le_refl _, (fun x hx => nomatch hx)⟩ (fun j σ H' _ ⟨_, sm, _⟩ => SqL.of (sm _ _ hD)) ?_ ?_⟩
    · rintro j y σ H' hy ⟨⟨x3, x4, x5, x6, rfl⟩, sm, vs, hr1, hh, hlen, hall⟩
      obtain ⟨x, hx, a, rfl, ha⟩ := hrs.get hy
      have hj := lt_of_some hy
      obtain ⟨hj2, ex⟩ := List.getElem?_eq_some_iff.mp hx
      rw [List.drop_eq_getElem_cons hj2, ex] at hh
      obtain ⟨hc, hh⟩ := hg_cons hh
      have tx := ww x (List.mem_of_getElem? hx)
      have evs : vs = vs.take (vs.length - x.2.1) ++ vs.drop (vs.length - x.2.1) := (List.take_append_drop _ _).symm
      have ldr : (vs.drop (vs.length - x.2.1)).length = x.2.1 := by rw [List.length_drop]; omega
      refine ⟨a, _, rfl, SqT.of (sm _ _ ha), rfl, _, _, rfl, _, _, rfl, _, _, rfl, rfl, ?_⟩
      refine ⟨_, rfl, _, rfl, r, x.2.1, vs.take (vs.length - x.2.1), vs.drop (vs.length - x.2.1), rfl, by rw [<- evs]; exact hr1, ldr, by omega, fun tb H2 sh_ h2r h2t => ?_⟩
      have s12 : Same H1 H2 := fun b o e => by
        have nb : b ≠ r := ne_of_none e hr'
        exact sh_ b o (by rw [hide_ne nb]; exact sm _ _ e)
      have ltk : (vs.take (vs.length - x.2.1)).length = vs.length - x.2.1 := by rw [List.length_take]; omega
      generalize vs.take (vs.length - x.2.1) = xs at *
      generalize vs.drop (vs.length - x.2.1) = ys at *
      have fin : rowG x -> ∀ (v : V) (H5 : Hp), Same H2 H5 -> (∃ x3' x4' x5' x6', [some (.str z), some (.ref D), some (.ref r), some (V.str x.1), some (V.int x.2.1), some (V.int x.2.2), some (V.ref tb)] = [some (.str z), some (.ref D), some (.ref r), x3', x4', x5', x6']) /\ Same H1 (upd H5 r (.lst (xs ++ [v]))) /\ ∃ vs', upd H5 r (.lst (xs ++ [v])) r = some (.lst vs') /\ hg vs'.length (rows.drop (j + 1)) = some m /\ vs'.length <= j + 1 /\ ∀ y ∈ rows.take (j + 1), rowG y := fun gd v H5 s25 => by
        refine ⟨⟨_, _, _, _, rfl⟩, same_upd hr' (s12.trans s25), _, upd_same, by rw [List.length_append, ltk]; exact hh, by rw [List.length_append, ltk, List.length_singleton]; omega, fun y hy => ?_⟩
        rw [take_snocA hx] at hy
        rcases List.mem_append.mp hy with h | h
        · exact hall y h
        · rw [List.mem_singleton.mp h]; exact gd
      by_cases h0 : x.2.1 = 0
      · have hy0 : ys = [] := List.length_eq_zero_iff.mp (by omega)
        subst hy0
        by_cases hL : isL x.1
        · obtain ⟨t, hl, hw, e⟩ := hL
          refine ⟨_, rfl, .inl ⟨rfl, _, SqL.of h2r⟩, _, rfl, false, (.inr (.inl ⟨_, SqT.of h2t, rfl⟩)), iteF ⟨_, rfl, x.1, rfl, tx, .inl ⟨t, hl, hw, e, fun v H5 s25 hv => ?_⟩⟩⟩
          exact ⟨r, xs, v, rfl, rfl, s25 _ _ h2r, fitsL (by omega), fin (.inl ⟨h0, t, hl, hw, e⟩) v H5 s25⟩
        · exact ⟨_, rfl, .inl ⟨rfl, _, SqL.of h2r⟩, _, rfl, false, (.inr (.inl ⟨_, SqT.of h2t, rfl⟩)), iteF ⟨_, rfl, x.1, rfl, tx, .inr ⟨hL, fun H5 s25 => qe _ (s1.trans (s12.trans s25))⟩⟩⟩
      · have hyn : ys ≠ [] := fun z => h0 (by rw [z] at ldr; exact ldr.symm)
        by_cases hD' : x.1 ∈ deeds /\ ys.length <= 3
        · refine ⟨_, rfl, .inl ⟨rfl, _, SqL.of h2r⟩, _, rfl, true, (.inr (.inl ⟨_, SqT.of h2t, by cases ys with | nil => exact absurd rfl hyn | cons a b => rfl⟩)), iteT ⟨_, rfl, _, rfl, x.1, tb, ys, rfl, tx, h2t, by omega, .inl ⟨hD', fun p H5 s25 hp => ?_⟩⟩⟩
          exact ⟨r, xs, _, rfl, rfl, s25 _ _ h2r, fitsL (by omega), fin (.inr ⟨by omega, by omega, hD'.1⟩) _ H5 s25⟩
        · exact ⟨_, rfl, .inl ⟨rfl, _, SqL.of h2r⟩, _, rfl, true, (.inr (.inl ⟨_, SqT.of h2t, by cases ys with | nil => exact absurd rfl hyn | cons a b => rfl⟩)), iteT ⟨_, rfl, _, rfl, x.1, tb, ys, rfl, tx, h2t, by omega, .inr ⟨hD', fun H5 s25 => qe _ (s1.trans (s12.trans s25))⟩⟩⟩
    · rintro σ H' ⟨⟨x3, x4, x5, x6, rfl⟩, sm, vs, hr1, hh, hlen, hall⟩
      rw [List.take_of_length_le (by omega)] at hall
      exact absurd (hall x0 hx0) ebad
end
end K07
namespace K07
open PySem L2 NS TR
open TM hiding Endd Ms Run Step pcs run_all
theorem fold_app : ∀ (l : List (Array Nat)) (acc : Array Nat), (l.foldl (· ++ ·) acc).toList = acc.toList ++ (l.map Array.toList).flatten
  | [], acc => by simp
  | a :: l, acc => by rw [List.foldl_cons, fold_app l]; simp
theorem mul_all (g : Nat) (n : Int) : ∀ c ∈ (Txt.mul ⟨#[g]⟩ n).cps.toList, c = g := by
  intro c hc
  unfold Txt.mul at hc
  split at hc
  · exact absurd hc (by simp [Str.empty])
  · split at hc
    · simpa using hc
    · rw [show ((⟨(List.replicate n.toNat (#[g] : Array Nat)).foldl (· ++ ·) #[]⟩ : Str)).cps.toList = _ from fold_app _ _] at hc
      simp only [List.map_replicate, List.nil_append, List.mem_flatten] at hc
      obtain ⟨l, hl, h⟩ := hc
      have h1 : 0 < n /\ l = [g] := by simpa using hl
      rw [h1.2] at h
      simpa using h
def GoodN (z : Str) : Prop := z.cps.toList ≠ [] /\ z.cps.toList.length <= 8 /\ ∀ c ∈ z.cps.toList, letOk c = true
def spWord : Sp := fun vs H Q _ => ∃ c : Int, vs = [.int c] /\ ∀ z, GoodN z -> Q (.str z) H
def spNam : Sp := fun vs H Q _ => ∃ c : Int, vs = [.int c] /\ ∀ z H', GoodN z -> Same H H' -> Q (.str z) H'
def IsL (H : Hp) (t : Tm) (v : V) : Prop := ∃ a, v = .ref a /\ H a = some (.lst [.str (sh t), .int (parts t), .int (depth t)])
def IsLs (H : Hp) : List Tm -> List V -> Prop
  | [], vs => vs = []
  | t :: ts, vs => ∃ v r, vs = v :: r /\ IsL H t v /\ IsLs H ts r
theorem IsL.same {H H' : Hp} (s : Same H H') {t : Tm} {v : V} (h : IsL H t v) : IsL H' t v := by
  obtain ⟨a, e, ha⟩ := h
  exact ⟨a, e, s _ _ ha⟩
theorem IsLs.same {H H' : Hp} (s : Same H H') : ∀ {ts : List Tm} {vs : List V}, IsLs H ts vs -> IsLs H' ts vs
  | [], _, h => h
  | _ :: _, _, ⟨v, r, x, y, z⟩ => ⟨v, r, x, y.same s, IsLs.same s z⟩
theorem IsLs.len {H : Hp} : ∀ {ts : List Tm} {vs : List V}, IsLs H ts vs -> ts.length = vs.length
  | [], vs, h => by cases h; rfl
  | t :: ts, vs, ⟨v, r, x, _, z⟩ => by subst x; rw [List.length_cons, List.length_cons, IsLs.len z]
theorem IsLs.get {H : Hp} : ∀ {ts : List Tm} {vs : List V} {i : Nat} {v : V}, IsLs H ts vs -> vs[i]? = some v -> ∃ t, ts[i]? = some t /\ IsL H t v
  | [], vs, i, v, h, e => by cases h; simp at e
  | t :: ts, vs, 0, v, ⟨u, r, x, y, z⟩, e => by subst x; simp at e; subst e; exact ⟨t, rfl, y⟩
  | t :: ts, vs, i + 1, v, ⟨u, r, x, y, z⟩, e => by
    subst x
    obtain ⟨q, hq, w⟩ := IsLs.get (i := i) z (by simpa using e)
    exact ⟨q, by simpa using hq, w⟩
theorem IsLs.app {H : Hp} : ∀ {ts us : List Tm} {vs ws : List V}, IsLs H ts vs -> IsLs H us ws -> IsLs H (ts ++ us) (vs ++ ws)
  | [], _, _, _, h, g => by cases h; exact g
  | t :: ts, us, _, ws, ⟨v, r, x, y, z⟩, g => by subst x; exact ⟨v, r ++ ws, rfl, y, IsLs.app z g⟩
theorem IsLs.one {H : Hp} {t : Tm} {v : V} (h : IsL H t v) : IsLs H [t] [v] := ⟨v, [], rfl, h, rfl⟩
theorem IsLs.take {H : Hp} : ∀ {ts : List Tm} {vs : List V} (k : Nat), IsLs H ts vs -> IsLs H (ts.take k) (vs.take k)
  | [], _, k, h => by cases h; rw [List.take_nil, List.take_nil]; rfl
  | t :: ts, _, 0, _ => by rw [List.take_zero, List.take_zero]; rfl
  | t :: ts, _, k + 1, ⟨v, r, x, y, z⟩ => by subst x; rw [List.take_succ_cons, List.take_succ_cons]; exact ⟨v, _, rfl, y, IsLs.take k z⟩
theorem IsLs.drop {H : Hp} : ∀ {ts : List Tm} {vs : List V} (k : Nat), IsLs H ts vs -> IsLs H (ts.drop k) (vs.drop k)
  | [], _, k, h => by cases h; rw [List.drop_nil, List.drop_nil]; rfl
  | t :: ts, _, 0, h => h
  | t :: ts, _, k + 1, ⟨v, r, x, y, z⟩ => by subst x; rw [List.drop_succ_cons, List.drop_succ_cons]; exact IsLs.drop k z
def New (H : Hp) (v : V) : Prop := ∃ a, v = .ref a /\ H a = none
def deedAt (c : Int) : Str := deeds.getD (c % 12).toNat "add"
def spDeedL : Sp := fun vs H Q _ => ∃ c : Int, vs = [.int c] /\ ∀ H', Same H H' -> Q (.str (deedAt c)) H'
def spLeafL : Sp := fun vs H Q _ => ∃ c : Int, vs = [.int c] /\ ∀ t v H', Leaf t -> Wf t -> Same H H' -> IsL H' t v -> New H v -> Q v H'
def spCallL : Sp := fun vs H Q _ => ∃ (c : Int) (l : Addr) (ts : List Tm) (qs : List V), vs = [.int c, .ref l] /\ H l = some (.lst qs) /\ IsLs H ts qs /\ ts ≠ [] /\ ts.length <= 3 /\ Wfs ts /\ partss ts <= 190 /\
  ∀ d v H', d ∈ deeds -> Same H H' -> IsL H' (.call d ts) v -> New H v -> Q v H'
abbrev letters26 : Str := "abcdefghijklmnopqrstuvwxyz"
theorem at_letters {m : Int} (h0 : 0 <= m) (h1 : m < 26) : ∃ c, atI letters26.cps.toList m = some c /\ c ∈ letters26.cps.toList := by
  obtain ⟨k, rfl⟩ := Int.eq_ofNat_of_zero_le h0
  have hl : letters26.cps.toList.length = 26 := by decide +kernel
  exact ⟨_, atI_nat (List.getElem?_eq_getElem (by omega)), List.getElem_mem _⟩
theorem let_in : ∀ c ∈ letters26.cps.toList, letOk c = true := by decide +kernel
theorem at_mod26 (c : Int) : ∃ g, atI letters26.cps.toList (c % 26) = some g /\ letOk g = true := by
  obtain ⟨g, h, m⟩ := at_letters (Int.emod_nonneg c (show (26 : Int) ≠ 0 by decide)) (Int.emod_lt_of_pos c (show (0 : Int) < 26 by decide))
  exact ⟨g, h, let_in g m⟩
theorem at_signs {m : Int} (h0 : 0 <= m) (h1 : m < 36) : ∃ c, atI S36.cps.toList m = some c /\ c ∈ S36.cps.toList := by
  obtain ⟨k, rfl⟩ := Int.eq_ofNat_of_zero_le h0
  have hl : S36.cps.toList.length = 36 := by decide +kernel
  exact ⟨_, atI_nat (List.getElem?_eq_getElem (by omega)), List.getElem_mem _⟩
theorem sign_in : ∀ c ∈ S36.cps.toList, sgnOk c = true := by decide +kernel
theorem mul1_len (g : Nat) {n : Int} (h0 : 0 <= n) : ((Txt.mul ⟨#[g]⟩ n).length : Int) = n := by
  have e := PyProof.Rows.len_mul ⟨#[g]⟩ n
  have e1 : (Str.length ⟨#[g]⟩) = 1 := rfl
  rw [e1, if_neg (by simpa using h0)] at e
  omega
theorem glue_fold : ∀ (rest : List Str) (acc : Array Nat), (rest.foldl (fun acc p => acc ++ (Str.ofString "").cps ++ p.cps) acc).toList = acc.toList ++ (rest.map (·.cps.toList)).flatten
  | [], acc => by simp
  | p :: rest, acc => by
    rw [List.foldl_cons, glue_fold rest]
    have e : (Str.ofString "").cps = #[] := by decide
    rw [e]
    simp
theorem glue_list : ∀ (zs : List Str), (Txt.join "" zs).cps.toList = (zs.map (·.cps.toList)).flatten
  | [] => by show (PySem.Builtin.Str.glued "" []).cps.toList = _; rfl
  | z :: zs => by
    show ((zs.foldl (fun acc p => acc ++ (Str.ofString "").cps ++ p.cps) z.cps)).toList = _
    rw [glue_fold zs]
    simp
theorem glue_signs (gs : List Nat) : (Txt.join "" (gs.map fun g => (⟨#[g]⟩ : Str))).cps.toList = gs := by
  rw [glue_list, List.map_map]
  induction gs with
  | nil => rfl
  | cons g gs ih => rw [List.map_cons, List.flatten_cons, ih]; rfl
abbrev names12 : List Str := ["mark", "add", "pick", "num", "text", "row", "sign", "form", "down", "up", "at", "many"]
theorem names_good : ∀ z ∈ names12, z.cps.toList ≠ [] /\ z.cps.toList.length <= 8 /\ ∀ c ∈ z.cps.toList, letOk c = true := by decide +kernel
theorem at_of {zs : List Str} {m : Int} (h0 : 0 <= m) (h1 : m < zs.length) : ∃ z, atI (zs.map V.str) m = some (.str z) /\ z ∈ zs := by
  obtain ⟨x, hx, hm⟩ := atI_in (xs := zs.map V.str) h0 (by rw [List.length_map]; exact h1)
  obtain ⟨d, hd, rfl⟩ := List.mem_map.mp hm
  exact ⟨d, hx, hd⟩
theorem sum_len : ∀ (ts : List Tm), Wfs ts -> ((((shs ts).map (·.length)).sum : Nat) : Int) <= 50 * partss ts
  | [], _ => by unfold shs; rw [partss]; decide
  | t :: ts, hw => by
    unfold Wfs at hw
    unfold shs
    rw [partss, List.map_cons, List.sum_cons]
    have h1 := sh_len t hw.1
    have h2 := sum_len ts hw.2
    omega
theorem shs_len : ∀ (ts : List Tm), (shs ts).length = ts.length := fun ts => by rw [shs_map, List.length_map]
theorem shs_get {ts : List Tm} {i : Nat} {t : Tm} {y : V} (ht : ts[i]? = some t) (hy : ((shs ts).map V.str)[i]? = some y) : y = V.str (sh t) := by
  rw [List.getElem?_map, shs_map, List.getElem?_map, ht] at hy
  exact (Option.some.inj hy).symm
theorem IsLs.two {H : Hp} {t u : Tm} {v x : V} (h : IsL H t v) (g : IsL H u x) : IsLs H [t, u] [v, x] := ⟨v, _, rfl, h, IsLs.one g⟩
theorem IsLs.three {H : Hp} {t u s : Tm} {v x y : V} (h : IsL H t v) (g : IsL H u x) (k : IsL H s y) : IsLs H [t, u, s] [v, x, y] := ⟨v, _, rfl, h, IsLs.two g k⟩
theorem wf3 {t u s : Tm} (h : Wf t) (g : Wf u) (k : Wf s) : Wfs [t, u, s] := by unfold Wfs Wfs Wfs Wfs; exact ⟨h, g, k, trivial⟩
theorem wf1 {t : Tm} (h : Wf t) : Wfs [t] := by unfold Wfs Wfs; exact ⟨h, trivial⟩
theorem parts3 (t u s : Tm) : partss [t, u, s] = parts t + (parts u + parts s) := by rw [partss, partss, partss, partss]; omega
theorem parts1 (t : Tm) : partss [t] = parts t := by rw [partss, partss]; omega
theorem wf_call {d : Str} {ts : List Tm} (hd : d ∈ deeds) (hn : ts ≠ []) (h3 : ts.length <= 3) (hw : Wfs ts) : Wf (.call d ts) := by unfold Wf; exact ⟨hd, hn, h3, hw⟩
theorem deedAt_mem (c : Int) : deedAt c ∈ deeds := by
  have h0 := Int.emod_nonneg c (show (12 : Int) ≠ 0 by decide)
  have h1 := Int.emod_lt_of_pos c (show (0 : Int) < 12 by decide)
  unfold deedAt
  generalize c % 12 = m at h0 h1
  obtain ⟨k, rfl⟩ := Int.eq_ofNat_of_zero_le h0
  have hl : deeds.length = 12 := by decide
  have hk : (Int.toNat (k : Int)) < deeds.length := by omega
  rw [List.getD_eq_getElem?_getD, List.getElem?_eq_getElem hk]
  exact List.getElem_mem _
theorem deedAt_at (c : Int) : atI (deeds.map V.str) (c % 12) = some (.str (deedAt c)) := by
  have h0 := Int.emod_nonneg c (show (12 : Int) ≠ 0 by decide)
  have h1 := Int.emod_lt_of_pos c (show (0 : Int) < 12 by decide)
  unfold deedAt
  generalize c % 12 = m at h0 h1
  obtain ⟨k, rfl⟩ := Int.eq_ofNat_of_zero_le h0
  have hl : deeds.length = 12 := by decide
  have hk : k < deeds.length := by omega
  refine atI_nat ?_
  rw [List.getElem?_map, List.getElem?_eq_getElem hk]
  show some (V.str _) = some (V.str (deeds.getD k "add"))
  rw [List.getD_eq_getElem?_getD, List.getElem?_eq_getElem hk]
  rfl
theorem leafL {H H1 : Hp} {t : Tm} {z : Str} {p : Addr} (e : sh t = z) (hl : Leaf t) (s : Same H H1) (hp : H1 p = none) : Same H (upd H1 p (.lst [.str z, .int 1, .int 1])) /\ IsL (upd H1 p (.lst [.str z, .int 1, .int 1])) t (.ref p) /\ New H (.ref p) := by
  refine ⟨s.trans (same_new hp _), ⟨p, rfl, ?_⟩, p, rfl, s.free hp⟩
  rw [upd_same, e, parts_leaf hl, depth_leaf hl]
  rfl
section
variable {P : Program} {w : World} {K : PySem.W.Frag} {mg : Str -> Option Value} {base : Heap} {T : Adr}
theorem ok_deedL (X : Tx K w mg T) : FnOk P w K mg base CX0 1 T.qdeed T.d_qdeed ["_law_cell"] spDeedL := by
  refine X.F_qdeed.okQ sc_qdeed (fun vs H Q E h => ?_) (fun cdv A outer s H vs Q E hr h => ?_)
  · obtain ⟨_, rfl, _⟩ := h
    rfl
  obtain ⟨c, rfl, q⟩ := h
  refine ⟨_, (qss_one (qs_ret (qe_ix ix_list (qe_lst (qaC qe_str (qaC qe_str (qaC qe_str (qaC qe_str (qaC qe_str (qaC qe_str (qaC qe_str (qaC qe_str (qaC qe_str (qaC qe_str (qaC qe_str (qaC qe_str qa_nil))))))))))))) (qe_op op_mod (qv 0) qe_int) (fun _ _ => rfl)))), ?_⟩
  refine ⟨(by show 12 <= sizeLine; decide), fun dl hdl => ?_⟩
  have s1 := same_new hdl (.lst (deeds.map V.str))
  exact ⟨_, rfl, _, _, rfl, rfl, (by show (0 : Int) < 12; decide), dl, _, _, _, rfl, rfl, SqL.of upd_same, deedAt_at c, q _ s1⟩
theorem ok_word (X : Tx K w mg T) : FnOk P w K mg base CX0 1 T.qword T.d_qword ["_law_cell"] spWord := by
  refine X.F_qword.okQ sc_qword (fun vs H Q E h => ?_) (fun cdv A outer s H vs Q E hr h => ?_)
  · obtain ⟨_, rfl, _⟩ := h
    rfl
  obtain ⟨c, rfl, q⟩ := h
  refine ⟨_, (qss_cons (qs_set (i := 1) sc_qword.nd rfl (Or.inl rfl) qe_str) (qss_cons (qs_set (i := 2) sc_qword.nd rfl (Or.inl rfl) (qe_op op_add qe_int (qe_op op_mod (qv 0) qe_int))) (qss_cons (qs_set (i := 3) sc_qword.nd rfl (Or.inl rfl) (qe_op op_mod (qe_op op_fdiv (qv 0) qe_int) (qv 2))) (qss_cons (qs_set (i := 4) sc_qword.nd rfl (Or.inl rfl) (qe_ix ix_str (qv 1) (qe_op op_mod (qe_op op_fdiv (qv 0) qe_int) qe_int) (fun _ _ => rfl))) (qss_one (qs_ret (qe_op op_add_str (qe_op op_add_str (qe_op op_rep_str (qv 4) (qv 3)) (qe_ix ix_str (qv 1) (qe_op op_mod (qe_op op_fdiv (qv 0) qe_int) qe_int) (fun _ _ => rfl))) (qe_op op_rep_str (qv 4) (qe_op op_sub (qe_op op_sub (qv 2) (qv 3)) qe_int))))))))), ?_⟩
  have c0 := Int.emod_nonneg c (show (8 : Int) ≠ 0 by decide)
  have c1 := Int.emod_lt_of_pos c (show (0 : Int) < 8 by decide)
  have hpos : (0 : Int) < 1 + c % 8 := by omega
  have a0 := Int.emod_nonneg (c / 8) (show (1 + c % 8 : Int) ≠ 0 by omega)
  have a1 := Int.emod_lt_of_pos (c / 8) hpos
  obtain ⟨g, hg, lg⟩ := at_mod26 (c / 64)
  obtain ⟨g2, hg2, lg2⟩ := at_mod26 (c / 1664)
  refine ⟨_, rfl, _, _, rfl, rfl, (by show (0 : Int) < 8; decide), _, _, rfl, rfl, ?_⟩
  refine ⟨_, rfl, _, _, rfl, rfl, ⟨by decide, by decide⟩, _, rfl, _, _, rfl, rfl, hpos, ?_⟩
  refine ⟨_, rfl, _, rfl, _, _, rfl, rfl, ⟨by decide, by decide⟩, _, _, rfl, rfl, (by show (0 : Int) < 26; decide), letters26, _, g, rfl, rfl, (by decide +kernel), hg, ?_⟩
  have l1 := mul1_len g (n := c / 8 % (1 + c % 8)) (by omega)
  have l2 := mul1_len g (n := 1 + c % 8 - c / 8 % (1 + c % 8) - 1) (by omega)
  have e1 : (Str.length ⟨#[g]⟩) = 1 := rfl
  have e2 : (Str.length ⟨#[g2]⟩) = 1 := rfl
  refine ⟨_, rfl, _, rfl, _, _, rfl, rfl, (by rw [e1]; decide), by omega, by omega, _, rfl, _, rfl, _, _, rfl, rfl, ⟨by decide, by decide⟩, _, _, rfl, rfl, (by show (0 : Int) < 26; decide), letters26, _, g2, rfl, rfl, (by decide +kernel), hg2, _, _, rfl, rfl, fits2 (by omega), ?_⟩
  refine ⟨_, rfl, _, rfl, _, rfl, _, _, rfl, rfl, _, _, rfl, rfl, _, _, rfl, rfl, (by rw [e1]; decide), by omega, by omega, _, _, rfl, rfl, fits2 (by rw [app_len]; omega), q _ ⟨?_, ?_, ?_⟩⟩
  · rw [app_list, app_list]
    simp
  · rw [<- len_list, app_len, app_len]
    omega
  · intro x hx
    rw [app_list, app_list] at hx
    simp only [List.mem_append] at hx
    rcases hx with (h | h) | h
    · rw [mul_all g _ x h]; exact lg
    · have : x = g2 := by simpa using h
      rw [this]; exact lg2
    · rw [mul_all g _ x h]; exact lg
theorem ok_nam (X : Tx K w mg T) : FnOk P w K mg base CX0 2 T.qname T.d_qname ["_law_cell"] spNam := by
  have G_qword := ok_word (P := P) (w := w) (base := base) X
  refine X.F_qname.okQ sc_qname (fun vs H Q E h => ?_) (fun cdv A outer s H vs Q E hr h => ?_)
  · obtain ⟨_, rfl, _⟩ := h
    rfl
  obtain ⟨c, rfl, q⟩ := h
  refine ⟨_, (qss_cons (qs_set (i := 1) sc_qname.nd rfl (Or.inl rfl) (qe_lst (qaC qe_str (qaC qe_str (qaC qe_str (qaC qe_str (qaC qe_str (qaC qe_str (qaC qe_str (qaC qe_str (qaC qe_str (qaC qe_str (qaC qe_str (qaC qe_str qa_nil)))))))))))))) (qss_cons (qs_if (qt_cmpR op_eq (qe_op op_mod (qv 0) qe_int) qe_int (nomark _)) (qss_one (qs_ret (qe_ix ix_list (qv 1) (qe_op op_mod (qe_op op_fdiv (qv 0) qe_int) qe_int) (fun _ _ => rfl)))) qss_nil) (qss_one (qs_ret (qe_call G_qword hr rfl X.m_qword X.F_qword.kp X.b_qword .nil pass0 (qaN (qv 0) qa_nil)))))), ?_⟩
  refine ⟨(by show 12 <= sizeLine; decide), fun p hp => ?_⟩
  have s1 := same_new hp (.lst (names12.map V.str))
  refine ⟨_, rfl, _, _, rfl, rfl, (by show (0 : Int) < 3; decide), rfl, _, rfl, iteDd (fun _ => ?_) (fun _ => ?_)⟩
  · obtain ⟨z, hz, hm⟩ := at_of (zs := names12) (m := c / 3 % 12) (Int.emod_nonneg _ (by decide)) (Int.emod_lt_of_pos _ (by decide))
    exact ⟨_, rfl, _, rfl, _, _, rfl, rfl, ⟨by decide, by decide⟩, _, _, rfl, rfl, (by show (0 : Int) < 12; decide), p, _, _, _, rfl, rfl, SqL.of upd_same, hz, q z _ (names_good z hm) s1⟩
  · exact ⟨_, rfl, c, rfl, fun z hz => q z _ hz s1⟩
theorem ok_leaf (X : Tx K w mg T) : FnOk P w K mg base CX0 3 T.qleaf T.d_qleaf ["_law_cell"] spLeafL := by
  have G_qname := ok_nam (P := P) (w := w) (base := base) X
  refine X.F_qleaf.okQ sc_qleaf (fun vs H Q E h => ?_) (fun cdv A outer s H vs Q E hr h => ?_)
  · obtain ⟨_, rfl, _⟩ := h
    rfl
  obtain ⟨c, rfl, q⟩ := h
  refine ⟨_, (qss_cons (qs_set (i := 1) sc_qleaf.nd rfl (Or.inr rfl) qe_str) (qss_cons (qs_set (i := 2) sc_qleaf.nd rfl (Or.inr rfl) (qe_op op_mod (qe_op op_mul (qe_op op_add (qv 0) qe_int) qe_int) qe_int)) (qss_cons (qs_set (i := 3) sc_qleaf.nd rfl (Or.inl rfl) (qe_op op_mod (qv 0) qe_int)) (qss_cons (qs_if (qt_cmpR op_lt (qv 3) qe_int (nomark _)) (qss_one (qs_ret (qe_lst (qaS (qe_ix ix_list (qe_lst (qaC qe_str (qaC qe_str qa_nil))) (qv 3) (fun _ _ => rfl)) (qaC qe_int (qaC qe_int qa_nil)))))) qss_nil) (qss_cons (qs_if (qt_cmpR op_eq (qv 3) qe_int (nomark _)) (qss_one (qs_ret (qe_lst (qaK (qe_callTy call_str_int rfl X.z_str PyProof.Rows.boot_str (qaB (qe_op op_mod (qe_op op_mul (qe_op op_fdiv (qv 0) qe_int) qe_int) (qe_op op_pow qe_int qe_int)) qa_nil)) (qaC qe_int (qaC qe_int qa_nil)))))) qss_nil) (qss_cons (qs_if (qt_cmpR op_eq (qv 3) qe_int (nomark _)) (qss_one (qs_ret (qe_lst (qaK (qe_callTy call_str_int rfl X.z_str PyProof.Rows.boot_str (qaS (qe_ix ix_list (qe_lst (qaC qe_int (qaB (qe_op op_sub (qe_op op_pow qe_int qe_int) qe_int) (qaB (qe_op op_pow qe_int qe_int) (qaB (qe_op op_mod (qv 2) qe_int) qa_nil))))) (qe_op op_mod (qe_op op_fdiv (qv 0) qe_int) qe_int) (fun _ _ => rfl)) qa_nil)) (qaC qe_int (qaC qe_int qa_nil)))))) qss_nil) (qss_cons (qs_if (qt_cmpR op_eq (qv 3) qe_int (nomark _)) (qss_cons (qs_set (i := 4) sc_qleaf.nd rfl (Or.inl rfl) (qe_ix ix_list (qe_lst (qaB (qe_op op_mod (qe_op op_fdiv (qv 0) qe_int) qe_int) (qaC qe_int qa_nil))) (qe_op op_mod (qv 2) qe_int) (fun _ _ => rfl))) (qss_cons (qs_set (i := 5) sc_qleaf.nd rfl (Or.inl rfl) (qe_bm PySem.F.plainAttrs_str PySem.F.slot_str_join PySem.F.type_str_join mt_join qe_str (qaE (qe_comp (ys := ["_law_signs", "_law_mixed"]) (js := [1, 2]) rfl rfl (qi_range1 rfl X.z_range (qaN (qv 4) qa_nil)) (fun _ _ _ _ _ => qif_nil) (fun _ _ _ _ _ => (qe_ix ix_str (qv 1) (qe_op op_mod (qe_op op_add (qv 2) (qe_op op_mul (qv 0) (qe_op op_fdiv (qv 2) qe_int))) qe_int) (fun _ _ => rfl)))) qa_nil))) (qss_one (qs_ret (qe_lst (qaB (qe_op op_add_str (qe_op op_add_str qe_str (qv 5)) qe_str) (qaC qe_int (qaC qe_int qa_nil)))))))) qss_nil) (qss_one (qs_ret (qe_lst (qaB (qe_op op_add_str (qe_op op_add_str (qe_callTy call_str_int rfl X.z_str PyProof.Rows.boot_str (qaB (qe_op op_mod (qe_op op_fdiv (qv 0) qe_int) qe_int) qa_nil)) qe_str) (qe_call G_qname hr rfl X.m_qname X.F_qname.kp X.b_qname .nil pass0 (qaN (qv 2) qa_nil))) (qaC qe_int (qaC qe_int qa_nil))))))))))))), ?_⟩
  have w0 := Int.emod_nonneg c (show (7 : Int) ≠ 0 by decide)
  have w1 := Int.emod_lt_of_pos c (show (0 : Int) < 7 by decide)
  refine ⟨_, rfl, _, _, rfl, rfl, _, _, rfl, rfl, .inr ⟨by decide, by decide⟩, _, _, rfl, rfl, (by show (0 : Int) < 2147483647; decide), ?_⟩
  have mx0 := Int.emod_nonneg ((c + 5) * 48271) (show (2147483647 : Int) ≠ 0 by decide)
  have mx1 := Int.emod_lt_of_pos ((c + 5) * 48271) (show (0 : Int) < 2147483647 by decide)
  dsimp only
  generalize (c + 5) * 48271 % 2147483647 = mx at mx0 mx1 ⊢
  refine ⟨_, rfl, _, _, rfl, rfl, (by show (0 : Int) < 7; decide), ?_⟩
  refine ⟨_, rfl, _, _, rfl, rfl, _, rfl, iteDd (fun h2 => ?_) (fun n2 => ?_)⟩
  · refine ⟨(by show 2 <= sizeLine; decide), fun p1 h1 => ?_⟩
    have hw : c % 7 = 0 \/ c % 7 = 1 := by omega
    rcases hw with e | e
    · refine ⟨_, rfl, p1, _, _, _, rfl, rfl, SqL.of upd_same, (by rw [e]; rfl), (by show 3 <= sizeLine; decide), fun p2 hp2 => ?_⟩
      obtain ⟨a, b, nw⟩ := leafL (t := .row) (z := "[]") (by unfold sh; rfl) trivial (same_new h1 _) hp2
      exact q .row _ _ trivial (by unfold Wf; trivial) a b nw
    · refine ⟨_, rfl, p1, _, _, _, rfl, rfl, SqL.of upd_same, (by rw [e]; rfl), (by show 3 <= sizeLine; decide), fun p2 hp2 => ?_⟩
      obtain ⟨a, b, nw⟩ := leafL (t := .mark) (z := "mark") (by unfold sh; rfl) trivial (same_new h1 _) hp2
      exact q .mark _ _ trivial (by unfold Wf; trivial) a b nw
  have big : (10 ^ Int.toNat 18 : Int) = 1000000000000000000 := by decide
  have b17 : (10 ^ Int.toNat 17 : Int) = 100000000000000000 := by decide
  refine ⟨_, rfl, rfl, _, rfl, iteDd (fun _ => ?_) (fun n2' => ?_)⟩
  · have m18 := Int.emod_nonneg (c / 7 * 7919) (show (10 ^ Int.toNat 18 : Int) ≠ 0 by decide)
    have n18 := Int.emod_lt_of_pos (c / 7 * 7919) (show (0 : Int) < 10 ^ Int.toNat 18 by decide)
    rw [big] at n18
    refine ⟨_, rfl, _, _, rfl, rfl, ⟨by decide, by decide⟩, _, _, rfl, rfl, .inr ⟨by decide, by decide⟩, _, _, rfl, rfl, ⟨by decide, by decide, by decide⟩, _, _, rfl, rfl, (by show (0 : Int) < 10 ^ Int.toNat 18; decide), _, rfl, small_log m18 (by rw [big]; exact n18), (by show 3 <= sizeLine; decide), fun p2 hp2 => ?_⟩
    obtain ⟨a, b, nw⟩ := leafL (t := .num (c / 7 * 7919 % 10 ^ Int.toNat 18)) (by unfold sh; rfl) trivial (Same.refl H) hp2
    exact q (.num (c / 7 * 7919 % 10 ^ Int.toNat 18)) _ _ trivial (by unfold Wf; exact ⟨m18, n18⟩) a b nw
  refine ⟨_, rfl, rfl, _, rfl, iteDd (fun _ => ?_) (fun n3 => ?_)⟩
  · have x0 := Int.emod_nonneg mx (show (11 : Int) ≠ 0 by decide)
    have x1 := Int.emod_lt_of_pos mx (show (0 : Int) < 11 by decide)
    refine ⟨_, _, rfl, rfl, ⟨by decide, by decide, by decide⟩, _, _, rfl, rfl, _, _, rfl, rfl, ⟨by decide, by decide, by decide⟩, _, rfl, _, _, rfl, rfl, (by show (0 : Int) < 11; decide), (by show 4 <= sizeLine; decide), fun p1 h1 => ?_⟩
    have inner : ∃ n : Int, atI [V.int 0, V.int (10 ^ Int.toNat 18 - 1), V.int (10 ^ Int.toNat 17), V.int (mx % 11)] (c / 7 % 4) = some (.int n) /\ 0 <= n /\ n < 1000000000000000000 := by
      have h4 : c / 7 % 4 = 0 \/ c / 7 % 4 = 1 \/ c / 7 % 4 = 2 \/ c / 7 % 4 = 3 := by omega
      rcases h4 with e | e | e | e <;> rw [e]
      · exact ⟨0, rfl, by decide, by decide⟩
      · exact ⟨_, rfl, by decide, by decide⟩
      · exact ⟨_, rfl, by decide, by decide⟩
      · exact ⟨_, rfl, x0, by omega⟩
    obtain ⟨n, hn, n0', n1'⟩ := inner
    refine ⟨_, rfl, _, _, rfl, rfl, ⟨by decide, by decide⟩, _, _, rfl, rfl, (by show (0 : Int) < 4; decide), p1, _, _, _, rfl, rfl, SqL.of upd_same, hn, _, rfl, small_log n0' n1', (by show 3 <= sizeLine; decide), fun p2 hp2 => ?_⟩
    obtain ⟨a, b, nw⟩ := leafL (t := .num n) (by unfold sh; rfl) trivial (same_new h1 _) hp2
    exact q (.num n) _ _ trivial (by unfold Wf; exact ⟨n0', n1'⟩) a b nw
  refine ⟨_, rfl, rfl, _, rfl, iteDd (fun _ => ?_) (fun n4 => ?_)⟩
  · have x0 := Int.emod_nonneg (c / 7) (show (41 : Int) ≠ 0 by decide)
    have x1 := Int.emod_lt_of_pos (c / 7) (show (0 : Int) < 41 by decide)
    refine ⟨_, rfl, _, _, rfl, rfl, ⟨by decide, by decide⟩, _, _, rfl, rfl, (by show (0 : Int) < 41; decide), (by show 2 <= sizeLine; decide), fun p1 h1 => ?_⟩
    have inner : ∃ n : Int, atI [V.int (c / 7 % 41), V.int 40] (mx % 2) = some (.int n) /\ 0 <= n /\ n <= 40 := by
      have h4 : mx % 2 = 0 \/ mx % 2 = 1 := by omega
      rcases h4 with e | e <;> rw [e]
      · exact ⟨_, rfl, x0, by omega⟩
      · exact ⟨_, rfl, by decide, by decide⟩
    obtain ⟨m, hm, m0, m4⟩ := inner
    refine ⟨_, rfl, _, _, rfl, rfl, (by show (0 : Int) < 2; decide), p1, _, _, _, rfl, rfl, SqL.of upd_same, hm, ?_⟩
    have s1 := same_new h1 (.lst [V.int (c / 7 % 41), V.int 40])
    generalize upd H p1 (.lst [V.int (c / 7 % 41), V.int 40]) = H0 at s1 ⊢
    refine ⟨rfl, _, rfl, _, rfl, by omega, by omega, fun D hD => ?_⟩
    refine comp_rng (fun i acc H' => ∃ gs : List Nat, acc = (gs.map fun g => (⟨#[g]⟩ : Str)).map V.str /\ gs.length = i /\ (∀ g ∈ gs, sgnOk g = true) /\ Same H0 H' /\ H' D = some (.lst acc)) (Nat.lt_of_le_of_lt (show m.toNat <= 1000 by omega) (by decide))
      ⟨[], rfl, rfl, (fun z hz => nomatch hz), same_new hD _, upd_same⟩ (fun i acc H' ⟨zs, e, l, _, _, d⟩ => ⟨d, by rw [e, List.length_map, List.length_map]; exact l⟩) ?_ ?_
    · rintro i m' acc H' hi ⟨zs, e, l, o, sm, d⟩ hm
      obtain ⟨g, hg, hgm⟩ := at_signs (Int.emod_nonneg _ (show (36 : Int) ≠ 0 by decide)) (Int.emod_lt_of_pos (mx + (0 + (i : Int)) * (mx / 36)) (show (0 : Int) < 36 by decide))
      refine ⟨_, rfl, _, rfl, _, rfl, _, rfl, _, _, rfl, rfl, ⟨by decide, by decide⟩, _, _, rfl, rfl, .inl ⟨by omega, by omega⟩, _, _, rfl, rfl, _, _, rfl, rfl, (by show (0 : Int) < 36; decide), S36, _, g, rfl, rfl, (by decide +kernel), hg, cstep hi hm d ⟨zs ++ [g], by rw [e, List.map_append, List.map_append]; rfl, by rw [List.length_append, l]; rfl, fun z hz => ?_, same_upd hD sm, upd_same⟩⟩
      rcases List.mem_append.mp hz with h | h
      · exact o z h
      · rw [List.mem_singleton.mp h]
        exact sign_in g hgm
    · rintro acc H' ⟨gs, e, l, o, sm, d⟩
      have hj := glue_signs gs
      have wz : Wf (.text (Txt.join "" (gs.map fun g => (⟨#[g]⟩ : Str)))) := by unfold Wf; exact ⟨by rw [hj]; omega, by rw [hj]; exact o⟩
      have jl : (Txt.join "" (gs.map fun g => (⟨#[g]⟩ : Str))).length <= 40 := by rw [len_list, hj]; omega
      have lq : (Str.ofString "\"").length = 1 := by decide
      refine ⟨"", D, gs.map fun g => (⟨#[g]⟩ : Str), rfl, rfl, SqL.of (by rw [d, e]), ?_, ?_⟩
      · have z : ("" : Str).length = 0 := rfl
        have e1 : ((gs.map fun g => (⟨#[g]⟩ : Str)).map (·.length)).sum = gs.length := by
          rw [List.map_map]
          clear e l o sm d hj q wz jl
          induction gs with
          | nil => rfl
          | cons g gs ih =>
            rw [List.map_cons, List.sum_cons, ih, List.length_cons]
            show 1 + _ = _
            omega
        rw [e1, z]
        omega
      · generalize Txt.join "" (gs.map fun g => (⟨#[g]⟩ : Str)) = z at wz jl ⊢
        refine ⟨_, rfl, _, _, rfl, rfl, fits2 (by omega), _, _, rfl, rfl, fits2 (by rw [app_len]; omega), (by show 3 <= sizeLine; decide), fun p2 hp2 => ?_⟩
        obtain ⟨a, b, nw⟩ := leafL (t := .text z) (by unfold sh; rfl) trivial (s1.trans sm) hp2
        exact q (.text z) _ _ trivial wz a b nw
  · have x0 := Int.emod_nonneg (c / 7) (show (4 : Int) ≠ 0 by decide)
    have x1 := Int.emod_lt_of_pos (c / 7) (show (0 : Int) < 4 by decide)
    have ld : (Str.ofString ".").length = 1 := by decide
    have lk : (Str.ofString (toString (c / 7 % 4))).length <= 18 := by rw [len_list]; exact (num_len x0 (by omega)).2
    refine ⟨_, rfl, _, _, rfl, rfl, ⟨by decide, by decide⟩, _, _, rfl, rfl, (by show (0 : Int) < 4; decide), _, rfl, small_log x0 (by show _ < (1000000000000000000 : Int); omega), _, _, rfl, rfl, fits2 (by omega), _, rfl, _, rfl, fun z H2 gz s2 => ?_⟩
    have lz : z.length <= 8 := by rw [len_list]; exact gz.2.1
    refine ⟨_, _, rfl, rfl, fits2 (by rw [app_len]; omega), (by show 3 <= sizeLine; decide), fun p2 hp2 => ?_⟩
    obtain ⟨a, b, nw⟩ := leafL (t := .val (c / 7 % 4) z) (by unfold sh; rfl) trivial s2 hp2
    exact q (.val (c / 7 % 4) z) _ _ trivial (by unfold Wf; exact ⟨by omega, gz.1, gz.2.1, gz.2.2⟩) a b nw
theorem ok_call (X : Tx K w mg T) : FnOk P w K mg base CX0 2 T.qcall T.d_qcall ["_law_cell", "_law_some"] spCallL := by
  have G_qdeed := ok_deedL (P := P) (w := w) (base := base) X
  refine X.F_qcall.okQ sc_qcall (fun vs H Q E h => ?_) (fun cdv A outer s H vs Q E hr h => ?_)
  · obtain ⟨_, _, _, _, rfl, _⟩ := h
    rfl
  obtain ⟨c, l, ts, qs, rfl, hl, hq, hne, h3, wf, hps, q⟩ := h
  have hlq := hq.len
  have hz : qs.length < sizeLine := fitsL (by omega)
  refine ⟨_, (qss_cons (qs_set (i := 2) sc_qcall.nd rfl (Or.inl rfl) (qe_op op_add_str (qe_op op_add_str (qe_op op_add_str (qe_call G_qdeed hr rfl X.m_qdeed X.F_qdeed.kp X.b_qdeed .nil pass0 (qaN (qv 0) qa_nil)) qe_str) (qe_bm PySem.F.plainAttrs_str PySem.F.slot_str_join PySem.F.type_str_join mt_join qe_str (qaE (qe_comp (ys := []) (js := []) rfl rfl (qi_list (qv 1)) (fun _ _ _ _ _ => qif_nil) (fun _ _ _ _ _ => (qe_ix (ix_listC (K := K) rfl) (qv 0) qe_int (fun _ _ => rfl)))) qa_nil))) qe_str)) (qss_one (qs_ret (qe_lst (qaN (qv 2) (qaB (qe_op op_add qe_int (qe_callB (call_sum rfl) rfl X.z_sum PyProof.Rows.boot_sum (qaE (qe_comp (ys := []) (js := []) rfl rfl (qi_list (qv 1)) (fun _ _ _ _ _ => qif_nil) (fun _ _ _ _ _ => (qe_ix (ix_listC (K := K) rfl) (qv 0) qe_int (fun _ _ => rfl)))) qa_nil))) (qaB (qe_op op_add qe_int (qe_callB (call_maxL rfl) rfl X.z_max PyProof.Rows.boot_max (qaE (qe_comp (ys := []) (js := []) rfl rfl (qi_list (qv 1)) (fun _ _ _ _ _ => qif_nil) (fun _ _ _ _ _ => (qe_ix (ix_listC (K := K) rfl) (qv 0) qe_int (fun _ _ => rfl)))) qa_nil))) qa_nil))))))), ?_⟩
  refine ⟨_, rfl, c, rfl, fun H1 s1 => ?_⟩
  have hm := deedAt_mem c
  generalize deedAt c = d at hm ⊢
  have hl1 := s1 _ _ hl
  have hq1 := hq.same s1
  have ld : d.length <= 4 := by rw [len_list]; exact deed_len d hm
  have e1 : (Str.ofString "(").length = 1 := by decide
  have e2 : (Str.ofString ")").length = 1 := by decide
  have e3 : (Str.ofString ",").length = 1 := by decide
  have sl := sum_len ts wf
  have jl := joined_len ts wf
  rw [<- join_list, <- len_list] at jl
  have js : (Txt.join "," (shs ts)).length <= 20000 := by omega
  refine ⟨_, _, rfl, rfl, fits2 (by omega), ?_⟩
  refine ⟨rfl, _, rfl, l, rfl, ⟨_, SqL.of hl1⟩, fun D hD => ?_⟩
  refine comp_lstM (K := K) (ys := (shs ts).map V.str) hz (by rw [List.length_map, shs_len]; exact hlq) (SqL.of hl1) hD (fun i v y H2 hv hy s2 Q' k => ?_) fun H2 s2 hD2 => ?_
  · obtain ⟨t, ht, a, rfl, ha⟩ := hq1.get hv
    rw [shs_get ht hy] at k
    exact ⟨_, rfl, a, _, 0, _, rfl, rfl, SqL.of (s2 _ _ ha), rfl, k H2 (Same.refl H2)⟩
  refine ⟨_, D, shs ts, rfl, rfl, SqL.of hD2, by rw [shs_len, e3]; omega, _, _, rfl, rfl, fits2 (by rw [app_len]; omega), _, _, rfl, rfl, fits2 (by rw [app_len, app_len]; omega), ?_⟩
  have sm2 := s1.trans s2
  have hl2 := s2 _ _ hl1
  have hq2 := hq1.same s2
  refine ⟨_, rfl, _, rfl, l, rfl, ⟨_, SqL.of hl2⟩, fun D3 hD3 => ?_⟩
  refine comp_lstM (K := K) (ys := ts.map fun u => V.int (parts u)) hz (by rw [List.length_map]; exact hlq) (SqL.of hl2) hD3 (fun i v y H3 hv hy s3 Q' k => ?_) fun H3 s3 hD3' => ?_
  · obtain ⟨t, ht, a, rfl, ha⟩ := hq2.get hv
    rw [List.getElem?_map, ht] at hy
    cases hy
    exact ⟨_, rfl, a, _, 1, _, rfl, rfl, SqL.of (s3 _ _ ha), rfl, k H3 (Same.refl H3)⟩
  refine ⟨D3, ts.map parts, rfl, SqL.of (by rw [hD3', List.map_map]; rfl), _, _, rfl, rfl, ?_⟩
  have sm3 := sm2.trans s3
  have hl3 := s3 _ _ hl2
  have hq3 := hq2.same s3
  refine ⟨_, rfl, l, rfl, ⟨_, SqL.of hl3⟩, fun D7 hD7 => ?_⟩
  refine comp_lstM (K := K) (ys := ts.map fun u => V.int (depth u)) hz (by rw [List.length_map]; exact hlq) (SqL.of hl3) hD7 (fun i v y H7 hv hy s7 Q' k => ?_) fun H7 s7 hD7' => ?_
  · obtain ⟨u, hu, a, rfl, ha⟩ := hq3.get hv
    rw [List.getElem?_map, hu] at hy
    cases hy
    exact ⟨_, rfl, a, _, 2, _, rfl, rfl, SqL.of (s7 _ _ ha), rfl, k H7 (Same.refl H7)⟩
  refine ⟨D7, ts.map fun u => (depth u : Int), rfl, SqL.of (by rw [hD7', List.map_map]; rfl), (fun z => hne (List.map_eq_nil_iff.mp z)), fun M hM1 hM2 => ?_⟩
  refine ⟨_, _, rfl, rfl, (by show 3 <= sizeLine; decide), fun r hr => ?_⟩
  have eM := depth_max hM1 hM2
  have s8 := same_new hr (.lst [.str (d ++ "(" ++ Txt.join "," (shs ts) ++ ")"), .int (1 + (ts.map parts).sum), .int (1 + M)])
  refine q d _ _ hm (sm3.trans (s7.trans s8)) ⟨r, rfl, ?_⟩ ⟨r, rfl, (sm3.trans s7).free hr⟩
  rw [upd_same, eM, <- partss_eq]
  have a1 : sh (.call d ts) = d ++ "(" ++ Txt.join "," (shs ts) ++ ")" := by unfold sh; rfl
  have a2 : parts (.call d ts) = 1 + partss ts := by rw [parts]
  have a3 : ((depth (.call d ts) : Nat) : Int) = 1 + (depths ts : Int) := by rw [depth]; omega
  rw [a1, a2, a3]
end
end K07
namespace K07
open PySem L2 NS TR
open TM hiding Endd Ms Run Step pcs run_all
theorem hide_new {H : Hp} {l : Addr} {o : HO} (hl : H l = none) : Same H (hide (upd H l o) l) := fun b u h => by
  have n := ne_of_none h hl
  rw [hide_ne n, upd_ne n]
  exact h
theorem hide_mono {H H' : Hp} {l : Addr} (s : Same H H') : Same (hide H l) (hide H' l) := fun b u h => by
  obtain ⟨n, h⟩ := hide_at h
  rw [hide_ne n]
  exact s _ _ h
theorem hide_upd {H : Hp} {l : Addr} {o : HO} : hide (upd H l o) l = hide H l := funext fun b => by
  by_cases e : b = l
  · rw [e, hide_self, hide_self]
  · rw [hide_ne e, hide_ne e, upd_ne e]
theorem IsL.hid {H B : Hp} {m : Addr} {qs : List V} {t : Tm} {v : V} (nw : New B v) (bm : B m = some (.lst qs)) (h : IsL H t v) : IsL (hide H m) t v := by
  obtain ⟨a, rfl, ha⟩ := h
  obtain ⟨a', e, n⟩ := nw
  cases e
  have ne : a ≠ m := fun z => by rw [z, bm] at n; cases n
  exact ⟨a, rfl, by rw [hide_ne ne]; exact ha⟩
def GoodT (t : Tm) : Prop := Wf t /\ parts t <= 28 /\ depth t <= 4
def spLines : Sp := fun vs H Q _ => ∃ (a : Addr) (ns : List Int), vs = [.ref a, .int 28, .int 4] /\ H a = some (.lst (ns.map V.int)) /\ ns.length <= 63 /\
  ∀ D ts H', Same H H' -> H' D = some (.lst ((shs ts).map V.str)) -> (∀ t ∈ ts, GoodT t) -> ts.length <= ns.length -> Q (.ref D) H'
theorem seq_join {t rest : TS} {D : Ends} {σ : St} {H : Hp} (R0 : St -> Hp -> Prop) (key : ∀ σ' H', R0 σ' H' -> rest D σ' H') (k : ∀ F : St -> Hp -> Prop, (∀ σ' H', R0 σ' H' -> F σ' H') -> t { D with nx := F } σ H) : tSeq t rest D σ H := k (rest D) key
theorem partss_le : ∀ {ts : List Tm}, (∀ t ∈ ts, parts t <= 30) -> partss ts <= 30 * ts.length
  | [], _ => by rw [partss]; simp
  | t :: ts, h => by
    rw [partss, List.length_cons]
    have h1 := h t (by simp)
    have h2 := partss_le (ts := ts) fun u hu => h u (by simp [hu])
    omega
section
variable {P : Program} {w : World} {K : PySem.W.Frag} {mg : Str -> Option Value} {base : Heap} {T : Adr}
theorem ok_lines (X : Tx K w mg T) : FnOk P w K mg base CX0 4 T.qlines T.d_qlines ["_law_cells", "_law_most", "_law_deepest"] spLines := by
  have G_qleaf := ok_leaf (P := P) (w := w) (base := base) X
  have G_qcall := (ok_call (P := P) (w := w) (base := base) X).mono (show 2 <= 3 by decide)
  refine X.F_qlines.okQ sc_qlines (fun vs H Q E h => ?_) (fun cdv A outer s H vs Q E hr h => ?_)
  · obtain ⟨_, _, rfl, _⟩ := h
    rfl
  obtain ⟨a, ns, rfl, ha, h63, q⟩ := h
  refine ⟨_, (qss_cons (qs_set (i := 3) sc_qlines.nd rfl (Or.inl rfl) (qe_lst qa_nil)) (qss_cons (qs_for PassesOwn.never rfl (qi_list (qv 0)) (qg_name (i := 4) sc_qlines.nd rfl (Or.inl rfl)) (qss_cons (qs_set (i := 5) sc_qlines.nd rfl (Or.inl rfl) (qe_callB (call_min2 rfl) rfl X.z_min PyProof.Rows.boot_min (qaK (qe_callB call_len_seq rfl X.z_len PySem.boot_len (qaN (qv 3) qa_nil)) (qaB (qe_op op_add qe_int (qe_op op_mod (qe_op op_fdiv (qv 4) qe_int) qe_int)) qa_nil)))) (qss_cons (qs_set (i := 6) sc_qlines.nd rfl (Or.inl rfl) (qe_call G_qleaf hr rfl X.m_qleaf X.F_qleaf.kp X.b_qleaf .nil pass0 (qaB (qe_op op_fdiv (qv 4) qe_int) qa_nil))) (qss_cons (qs_if (qw_pt (qw_and (qt_cmpR op_eq (qe_op op_mod (qv 4) qe_int) qe_int (nomark _)) (qw_and1 (qt_cmpR op_gt (qv 5) qe_int (nomark _))))) (qss_cons (qs_set (i := 7) sc_qlines.nd rfl (Or.inl rfl) (qe_call G_qcall hr rfl X.m_qcall X.F_qcall.kp X.b_qcall .nil pass0 (qaB (qe_op op_fdiv (qv 4) qe_int) (qaS (qe_slice sl_list (qv 3) (qo_some (qe_op op_sub (qe_callB call_len_seq rfl X.z_len PySem.boot_len (qaN (qv 3) qa_nil)) (qv 5))) qo_none) qa_nil)))) (qss_one (qs_if (qw_pt (qw_and (qt_cmpR op_le (qe_ix ix_list (qv 7) qe_int (fun _ _ => rfl)) (qv 1) (nomark _)) (qw_and1 (qt_cmpR op_le (qe_ix ix_list (qv 7) qe_int (fun _ _ => rfl)) (qv 2) (nomark _))))) (qss_cons (qs_set (i := 6) sc_qlines.nd rfl (Or.inl rfl) (qv 7)) (qss_one (qs_set (i := 3) sc_qlines.nd rfl (Or.inl rfl) (qe_slice sl_list (qv 3) qo_none (qo_some (qe_op op_sub (qe_callB call_len_seq rfl X.z_len PySem.boot_len (qaN (qv 3) qa_nil)) (qv 5))))))) qss_nil))) qss_nil) (qss_one (qs_expr (qe_bm PySem.F.plainAttrs_list PySem.F.slot_list_append PySem.F.type_list_append mt_append (qv 3) (qaN (qv 6) qa_nil)))))))) (qss_one (qs_ret (qe_comp (ys := []) (js := []) rfl rfl (qi_list (qv 3)) (fun _ _ _ _ _ => qif_nil) (fun _ _ _ _ _ => (qe_ix (ix_listC (K := K) rfl) (qv 0) qe_int (fun _ _ => rfl)))))))), ?_⟩
  refine ⟨(by show 0 <= sizeLine; decide), fun m0 hm0 => ?_⟩
  have s0 := same_new hm0 (.lst [])
  refine ⟨_, rfl, a, rfl, ⟨_, SqL.of (s0 _ _ ha)⟩, ?_⟩
  refine for_list (K := K) (a := a) (xs := ns.map V.int) (fun i σ H' => ∃ m ts qs x4 x5 x6 x7, σ = [some (.ref a), some (.int 28), some (.int 4), some (.ref m), x4, x5, x6, x7] /\ H m = none /\ Same H H' /\ H' m = some (.lst qs) /\ IsLs (hide H' m) ts qs /\ (∀ t ∈ ts, GoodT t) /\ ts.length <= i)
    ⟨m0, [], [], none, none, none, none, rfl, hm0, s0, upd_same, rfl, (fun t ht => nomatch ht), Nat.le_refl _⟩ (fun i σ H' _ ⟨_, _, _, _, _, _, _, _, _, sm, _⟩ => SqL.of (sm _ _ ha)) ?_ ?_
  · rintro i y σ H' hi ⟨m, ts, qs, x4, x5, x6, x7, rfl, nm, sm, hm, hq, good, hlen⟩
    have hi63 : i < 63 := by
      have := lt_of_some hi
      rw [List.length_map] at this
      omega
    obtain ⟨c, rfl⟩ : ∃ c, y = V.int c := by
      rw [List.getElem?_map] at hi
      cases e : ns[i]? with
      | none => rw [e] at hi; cases hi
      | some z => rw [e] at hi; exact ⟨z, (Option.some.inj hi).symm⟩
    have hlq := hq.len
    have r0 := Int.emod_nonneg (c / 2) (show (3 : Int) ≠ 0 by decide)
    have r1 := Int.emod_lt_of_pos (c / 2) (show (0 : Int) < 3 by decide)
    refine ⟨_, rfl, m, _, rfl, .inl (SqL.of hm), _, rfl, _, _, rfl, rfl, ⟨by decide, by decide⟩, _, _, rfl, rfl, (by show (0 : Int) < 3; decide), _, _, rfl, rfl, _, _, rfl, ?_⟩
    obtain ⟨k, hk, k3, kq⟩ : ∃ k : Nat, (if 1 + c / 2 % 3 < (qs.length : Int) then 1 + c / 2 % 3 else (qs.length : Int)) = (k : Int) /\ k <= 3 /\ k <= qs.length := by
      by_cases h : 1 + c / 2 % 3 < (qs.length : Int)
      · rw [if_pos h]; exact ⟨(1 + c / 2 % 3).toNat, by omega, by omega, by omega⟩
      · rw [if_neg h]; exact ⟨qs.length, rfl, by omega, Nat.le_refl _⟩
    rw [hk]
    have ej : (qs.length : Int) - (k : Int) = ((qs.length - k : Nat) : Int) := by omega
    refine ⟨_, rfl, _, _, rfl, rfl, ⟨by decide, by decide⟩, _, rfl, fun t v H2 lf wf s2 il nw => ?_⟩
    have hm2 := s2 _ _ hm
    have hq2 := hq.same (hide_mono (l := m) s2)
    have sm2 := sm.trans s2
    have il2 := il.hid nw hm
    have gt : GoodT t := ⟨wf, by rw [parts_leaf lf]; decide, by rw [depth_leaf lf]; decide⟩
    unfold gName
    dsimp only
    refine seq_join (fun σ' H3 => ∃ m ts qs t v x4 x5 x7, σ' = [some (.ref a), some (.int 28), some (.int 4), some (.ref m), x4, x5, some v, x7] /\ H m = none /\ Same H H3 /\ H3 m = some (.lst qs) /\ IsLs (hide H3 m) ts qs /\ (∀ t ∈ ts, GoodT t) /\ ts.length <= i /\ GoodT t /\ IsL (hide H3 m) t v) ?_ ?_
    · rintro σ' H3 ⟨m, ts, qs, t, v, x4, x5, x7, rfl, nm, sm3, hm3, hq3, good3, hl3, gt3, il3⟩
      have hlq3 := hq3.len
      refine ⟨_, rfl, .inl ⟨rfl, _, SqL.of hm3⟩, _, rfl, m, qs, v, rfl, rfl, hm3, fitsL (by omega), ?_⟩
      refine ⟨m, ts ++ [t], qs ++ [v], _, _, _, _, rfl, nm, same_upd nm sm3, upd_same, by rw [hide_upd]; exact hq3.app (IsLs.one il3), fun u hu => ?_, by rw [List.length_append, List.length_singleton]; omega⟩
      rcases List.mem_append.mp hu with h | h
      · exact good3 u h
      · rw [List.mem_singleton.mp h]; exact gt3
    · intro F hF
      refine ifS_by (fun H3 => H3 = H2 /\ 0 < k) (fun H3 => H3 = H2) (fun Q' qT qF => ?_) (fun H3 ⟨e, k0⟩ => ?_) (fun H3 e => ?_)
      · refine ⟨_, rfl, _, _, rfl, rfl, (by show (0 : Int) < 2; decide), rfl, _, rfl, iteDd (fun _ => ⟨_, rfl, _, _, rfl, rfl, _, rfl, ?_⟩) (fun _ => qF H2 rfl)⟩
        by_cases h0 : (0 : Int) < (k : Int)
        · rw [decide_eq_true h0]
          exact qT H2 ⟨rfl, by omega⟩
        · rw [decide_eq_false h0]
          exact qF H2 rfl
      · subst e
        have hd := hq2.drop (qs.length - k)
        have hdl : (ts.drop (qs.length - k)).length = k := by rw [List.length_drop]; omega
        have gd : ∀ u ∈ ts.drop (qs.length - k), GoodT u := fun u hu => good u (List.mem_of_mem_drop hu)
        have pl := partss_le (ts := ts.drop (qs.length - k)) fun u hu => by have := (gd u hu).2.1; omega
        refine ⟨_, rfl, _, _, rfl, rfl, ⟨by decide, by decide⟩, _, rfl, _, rfl, m, _, rfl, .inl (SqL.of hm2), _, rfl, _, _, rfl, rfl, _, rfl, m, _, rfl, SqL.of hm2, fun b hb => ?_⟩
        rw [ej, cut_drop (Nat.sub_le _ _)]
        have s1 := same_new hb (.lst (qs.drop (qs.length - k)))
        have hm1 := s1 _ _ hm2
        have hq1 := hq2.same (hide_mono (l := m) s1)
        have sm1 := sm2.trans s1
        have hd1 := (hd.same hide_same).same s1
        have hb1 := upd_same (H := H3) (a := b) (o := .lst (qs.drop (qs.length - k)))
        have il1 := il2.same (hide_mono (l := m) s1)
        generalize upd H3 b (.lst (qs.drop (qs.length - k))) = H1 at s1 hm1 hq1 sm1 hd1 hb1 il1 ⊢
        refine ⟨_, b, ts.drop (qs.length - k), _, rfl, hb1, hd1, (fun z => by rw [z] at hdl; exact absurd hdl (by simp; omega)), by omega, wfs_of fun u hu => (gd u hu).1, by omega, fun d v3 H4 dd s4 i4 nw4 => ?_⟩
        have hm4 := s4 _ _ hm1
        have hq4 := hq1.same (hide_mono (l := m) s4)
        have sm4 := sm1.trans s4
        have i4' := i4
        obtain ⟨a4, rfl, ha4⟩ := i4'
        dsimp only
        refine ifS_by (fun H5 => H5 = H4 /\ parts (.call d (ts.drop (qs.length - k))) <= 28 /\ depth (.call d (ts.drop (qs.length - k))) <= 4) (fun H5 => H5 = H4) (fun Q' qT qF => ?_) (fun H5 ⟨e, p30, d6⟩ => ?_) (fun H5 e => ?_)
        · refine ⟨_, rfl, a4, _, 1, _, rfl, rfl, SqL.of ha4, rfl, _, rfl, _, _, rfl, rfl, _, rfl, iteDd (fun h30 => ⟨_, rfl, a4, _, 2, _, rfl, rfl, SqL.of ha4, rfl, _, rfl, _, _, rfl, rfl, _, rfl, ?_⟩) (fun _ => qF H4 rfl)⟩
          by_cases h6 : ((depth (.call d (ts.drop (qs.length - k))) : Nat) : Int) <= 4
          · rw [decide_eq_true h6]
            exact qT H4 ⟨rfl, h30, by omega⟩
          · rw [decide_eq_false h6]
            exact qF H4 rfl
        · subst e
          refine ⟨_, rfl, _, rfl, _, rfl, m, _, rfl, .inl (SqL.of hm4), _, rfl, _, _, rfl, rfl, _, rfl, m, _, rfl, SqL.of hm4, fun m2 hm2' => ?_⟩
          rw [ej, cut_take (Nat.sub_le _ _)]
          have s5 := hide_new (o := .lst (qs.take (qs.length - k))) hm2'
          refine hF _ _ ⟨m2, ts.take (qs.length - k), qs.take (qs.length - k), _, _, _, _, _, rfl, sm4.free hm2', sm4.trans (same_new hm2' _), upd_same, ((hq4.same hide_same).take _).same s5, fun u hu => good u (List.mem_of_mem_take hu), by rw [List.length_take]; omega, ⟨wf_call dd (fun z => by rw [z] at hdl; exact absurd hdl (by simp; omega)) (by omega) (wfs_of fun u hu => (gd u hu).1), p30, d6⟩, i4.same s5⟩
        · subst e
          exact hF _ _ ⟨m, ts, qs, t, v, _, _, _, rfl, nm, sm4, hm4, hq4, good, by omega, gt, il1.same (hide_mono s4)⟩
      · subst e
        exact hF _ _ ⟨m, ts, qs, t, v, _, _, _, rfl, nm, sm2, hm2, hq2, good, by omega, gt, il2⟩
  · rintro σ H' ⟨m, ts, qs, x4, x5, x6, x7, rfl, nm, sm, hm, hq, good, hlen⟩
    rw [List.length_map] at hlen
    have hlq := hq.len
    have hq' := hq.same hide_same
    refine ⟨_, rfl, m, rfl, ⟨_, SqL.of hm⟩, fun D hD => ?_⟩
    refine comp_lstM (K := K) (ys := (shs ts).map V.str) (fitsL (by omega)) (by rw [List.length_map, shs_len]; exact hlq) (SqL.of hm) hD (fun i v y H2 hv hy s2 Q' k => ?_) fun H2 s2 hD2 => ?_
    · obtain ⟨t, ht, a, rfl, ha⟩ := hq'.get hv
      rw [shs_get ht hy] at k
      exact ⟨_, rfl, a, _, 0, _, rfl, rfl, SqL.of (s2 _ _ ha), rfl, k H2 (Same.refl H2)⟩
    exact q D ts H2 (sm.trans s2) hD2 good hlen
end
end K07
namespace K07
open PySem L2 NS TR
open TM hiding Endd Ms Run Step pcs run_all
theorem slice_past {x : Str} {j : Nat} (h : x.length <= j) : Txt.slice x (some (j : Int)) none = Txt.slice x (some (x.length : Int)) none := by
  show PySem.StrLaws.sliceText x (some (j : Int)) none = PySem.StrLaws.sliceText x (some (x.length : Int)) none
  unfold PySem.StrLaws.sliceText
  have e : Builtin.Str.strSliceIndices (some (j : Int)) none 1 x.length = Builtin.Str.strSliceIndices (some (x.length : Int)) none 1 x.length := by
    unfold Builtin.Str.strSliceIndices
    dsimp only
    rw [if_neg (show ¬ (j : Int) < 0 by omega), if_neg (show ¬ (x.length : Int) < 0 by omega), Int.min_eq_right (show (x.length : Int) <= (j : Int) by omega), Int.min_eq_right (Int.le_refl _)]
    rfl
  rw [e]
theorem from_any (x : Str) (k : Int) (j : Nat) (e : k = (j : Int)) : (Txt.slice x (some k) none).cps.toList = x.cps.toList.drop j := by
  subst e
  by_cases h : j <= x.cps.toList.length
  · exact from_list h
  · rw [slice_past (by rw [len_list]; omega), len_list, from_list (Nat.le_refl _), List.drop_of_length_le (Nat.le_refl _), List.drop_of_length_le (by omega)]
theorem to_list {x : Str} {j : Nat} (h : j <= x.cps.toList.length) : (Txt.slice x none (some (j : Int))).cps.toList = x.cps.toList.take j := by
  have := PySem.StrLaws.sliceText_to (x := x) (j := (j : Int)) ⟨by omega, by omega⟩
  have e : Txt.slice x none (some (j : Int)) = PySem.StrLaws.sliceText x none (some (j : Int)) := rfl
  rw [e, this]
  simp
theorem for_str {x : Str} {g : TG} {tb : TS} {D : Ends} {σ : St} {H : Hp} (Pv : Nat -> St -> Hp -> Prop) (h0 : Pv 0 σ H)
    (hs : ∀ i c σ H, x.cps.toList[i]? = some c -> Pv i σ H -> g (.str ⟨#[c]⟩) σ H fun σ2 H2 => tb { D with nx := Pv (i + 1), ct := Pv (i + 1), bk := D.nx } σ2 H2) (hd : ∀ σ H, Pv x.cps.toList.length σ H -> D.nx σ H) :
    ∃ W : Nat -> Nat -> St -> Hp -> Prop, (∃ m, W 0 m σ H) /\ ∀ i m σ H, W i m σ H ->
      ((Its x).stop i H /\ D.nx σ H) \/ ((Its x).go i H /\ ∃ N : St -> Hp -> Prop, (∀ σ' H', N σ' H' -> ∃ m', m' < m /\ W (i + 1) m' σ' H') /\ ∀ y H', (Its x).yld i H y H' -> g y σ H' fun σ2 H2 => tb { D with nx := N, ct := N, bk := D.nx } σ2 H2) := by
  have hsz : x.cps.size = x.cps.toList.length := by simp
  refine ⟨fun i m σ H => m = x.cps.toList.length - i /\ i <= x.cps.toList.length /\ Pv i σ H, ⟨x.cps.toList.length, by simp, Nat.zero_le _, h0⟩, ?_⟩
  rintro i m σ H ⟨rfl, hi, p⟩
  by_cases hlt : i < x.cps.toList.length
  · refine .inr ⟨by show i < x.cps.size; omega, Pv (i + 1), fun σ' H' p' => ⟨x.cps.toList.length - (i + 1), by omega, rfl, hlt, p'⟩, fun y H' hy => ?_⟩
    obtain ⟨e, c, hc, rfl⟩ := hy
    subst e
    exact hs i c σ _ (by rw [Array.getElem?_toList]; exact hc) p
  · have e : i = x.cps.toList.length := by omega
    subst e
    exact .inl ⟨by show x.cps.size <= _; omega, hd σ H p⟩
def tS (u : List Nat) : V := .str (mkS u)
theorem eqDs_strs : ∀ (ks ns : List Str), eqDs (ks.map fun n => Da.fl (.str n)) (ns.map fun n => Da.fl (.str n)) = decide (ks = ns)
  | [], [] => by unfold eqDs; exact (decide_eq_true rfl).symm
  | [], n :: ns => by rw [List.map_nil, List.map_cons]; unfold eqDs; exact (decide_eq_false (by simp)).symm
  | k :: ks, [] => by rw [List.map_nil, List.map_cons]; unfold eqDs; exact (decide_eq_false (by simp)).symm
  | k :: ks, n :: ns => by
    rw [List.map_cons, List.map_cons, eqDs, eqDs_strs ks ns]
    unfold eqD
    show (k == n && decide (ks = ns)) = _
    by_cases h1 : k = n
    · by_cases h2 : ks = ns
      · subst h1 h2; simp
      · subst h1; simp [h2]
    · have : (k == n) = false := by simpa using h1
      rw [this, decide_eq_false (fun z => h1 (List.cons.inj z).1)]
      rfl
theorem mk_map_inj {us ws : List (List Nat)} : us.map mkS = ws.map mkS ↔ us = ws := by
  constructor
  · intro h
    have := congrArg (List.map fun s : Str => s.cps.toList) h
    rw [List.map_map, List.map_map] at this
    have e : ((fun s : Str => s.cps.toList) ∘ mkS) = id := funext fun l => mk_list l
    rwa [e, List.map_id, List.map_id] at this
  · intro h; rw [h]
theorem ts_map (us : List (List Nat)) : us.map tS = (us.map mkS).map V.str := by rw [List.map_map]; rfl
theorem cut_mid (xs : List V) (a b : Nat) (h : a <= b) (k l : Int) (ek : k = (a : Int)) (el : l = (b : Int)) : cutV xs (some k) (some l) = (xs.drop a).take (b - a) := by
  subst ek el
  unfold cutV
  rw [HT.sIx_nat, HT.sIx_nat]
  by_cases ha : a <= xs.length
  · rw [Nat.min_eq_left ha]
    by_cases hb : b <= xs.length
    · rw [Nat.min_eq_left hb]
    · rw [Nat.min_eq_right (by omega), List.take_of_length_le (by rw [List.length_drop]; omega), List.take_of_length_le (by rw [List.length_drop]; omega)]
  · rw [Nat.min_eq_right (show xs.length <= a by omega), List.drop_of_length_le (Nat.le_refl _), List.drop_of_length_le (by omega), List.take_nil, List.take_nil]
theorem wr_len : ∀ (L acc : List Nat), (wr acc L).length <= 2 * L.length + 1
  | [], acc => by simp [wr]
  | c :: L, acc => by
    rw [wr]
    split
    · have := wr_len L (acc ++ [c]); rw [List.length_cons]; omega
    · have := wr_len L []; rw [List.length_cons, List.length_cons, List.length_cons]; omega
def spEdit : Sp := fun vs H Q _ => ∃ (t : Tm) (c : Int), vs = [.str (sh t), .int c] /\ GoodT t /\
  ∀ z : Str, TxOk z -> (∃ A B m n, (sh t).cps.toList = A ++ (m ++ B) /\ z.cps.toList = A ++ (n ++ B) /\ m.length <= 1 /\ n.length <= 1) -> Q (.str z) H
def spWords : Sp := fun vs H Q _ => ∃ z : Str, vs = [.str z] /\ TxOk z /\ ∀ D H', Same H H' -> H D = none -> H' D = some (.lst ((wr [] z.cps.toList).map tS)) -> Q (.ref D) H'
def spMadeOf : Sp := fun vs H Q _ => ∃ z s : Str, vs = [.str z, .str s] /\ Q (.bl (allB s z)) H
abbrev few : Str := "().,\"[]019amz"
abbrev many1 : Str := " !\"#$&'()*+,-./0123456789:;<=>?@ABCDEFGHIJKLMNOPQRSTUVWXYZ[\\]^_`"
abbrev many2 : Str := "abcdefghijklmnopqrstuvwxyz{|}~\n\t"
theorem at_any {s : Str} {n : Int} (k : Nat) (hk : s.cps.toList.length = k) (ha : ∀ c ∈ s.cps.toList, c < 128) (h0 : 0 <= n) (h1 : n < k) : ∃ c, atI s.cps.toList n = some c /\ c < 128 := by
  obtain ⟨j, rfl⟩ := Int.eq_ofNat_of_zero_le h0
  have hj : j < s.cps.toList.length := by omega
  exact ⟨_, atI_nat (List.getElem?_eq_getElem hj), ha _ (List.getElem_mem _)⟩
theorem few_asc : ∀ c ∈ few.cps.toList, c < 128 := by decide +kernel
theorem many_asc : ∀ c ∈ (many1 ++ many2).cps.toList, c < 128 := by decide +kernel
section
variable {P : Program} {w : World} {K : PySem.W.Frag} {mg : Str -> Option Value} {base : Heap} {T : Adr}
theorem ok_madeof (X : Tx K w mg T) : FnOk P w K mg base CX0 1 T.qmadeof T.d_qmadeof ["_law_word_here", "_law_signs"] spMadeOf := by
  refine X.F_qmadeof.okQ sc_qmadeof (fun vs H Q E h => ?_) (fun cdv A outer s H vs Q E hr h => ?_)
  · obtain ⟨_, _, rfl, _⟩ := h
    rfl
  obtain ⟨z, sg, rfl, q⟩ := h
  refine ⟨_, (qss_cons (qs_for PassesOwn.never rfl (qi_str (qv 0)) (qg_name (i := 2) sc_qmadeof.nd rfl (Or.inl rfl)) (qss_one (qs_if (qt_cmpR op_notin_str (qv 2) (qv 1) rfl) (qss_one (qs_ret qe_bl)) qss_nil))) (qss_one (qs_ret qe_bl))), ?_⟩
  refine ⟨_, rfl, z, rfl, for_str (fun i σ H' => H' = H /\ (∃ x2, σ = [some (.str z), some (.str sg), x2]) /\ ∀ c ∈ z.cps.toList.take i, inS sg c = true) ⟨rfl, ⟨none, rfl⟩, (fun c hc => nomatch hc)⟩ ?_ ?_⟩
  · rintro i c σ H' hc ⟨rfl, ⟨x2, rfl⟩, hall⟩
    refine ⟨_, rfl, _, rfl, _, _, rfl, rfl, _, rfl, ?_⟩
    show if (!inS sg c) = true then _ else _
    cases h : inS sg c with
    | false =>
      refine iteT ?_
      have e : allB sg z = false := List.all_eq_false.mpr ⟨c, List.mem_of_getElem? hc, by rw [h]; decide⟩
      rw [e] at q
      exact q
    | true =>
      refine iteF ⟨rfl, ⟨_, rfl⟩, fun d hd => ?_⟩
      rw [List.take_succ, hc] at hd
      rcases List.mem_append.mp hd with hd | hd
      · exact hall d hd
      · have : d = c := by simpa using hd
        rw [this]; exact h
  · rintro σ H' ⟨rfl, ⟨x2, rfl⟩, hall⟩
    rw [List.take_of_length_le (Nat.le_refl _)] at hall
    rw [all_yes hall] at q
    exact q
theorem ok_words (X : Tx K w mg T) : FnOk P w K mg base CX0 1 T.qwords T.d_qwords ["_law_line"] spWords := by
  refine X.F_qwords.okQ sc_qwords (fun vs H Q E h => ?_) (fun cdv A outer s H vs Q E hr h => ?_)
  · obtain ⟨_, rfl, _⟩ := h
    rfl
  obtain ⟨z, rfl, tz, q⟩ := h
  refine ⟨_, (qss_cons (qs_set (i := 1) sc_qwords.nd rfl (Or.inl rfl) (qe_lst qa_nil)) (qss_cons (qs_set (i := 2) sc_qwords.nd rfl (Or.inl rfl) qe_str) (qss_cons (qs_for PassesOwn.never rfl (qi_str (qv 0)) (qg_name (i := 3) sc_qwords.nd rfl (Or.inl rfl)) (qss_one (qs_if (qt_cmpR op_in_str (qv 3) qe_str rfl) (qss_one (qs_set (i := 2) sc_qwords.nd rfl (Or.inl rfl) (qe_op op_add_str (qv 2) (qv 3)))) (qss_cons (qs_expr (qe_bm PySem.F.plainAttrs_list PySem.F.slot_list_append PySem.F.type_list_append mt_append (qv 1) (qaN (qv 2) qa_nil))) (qss_cons (qs_expr (qe_bm PySem.F.plainAttrs_list PySem.F.slot_list_append PySem.F.type_list_append mt_append (qv 1) (qaN (qv 3) qa_nil))) (qss_one (qs_set (i := 2) sc_qwords.nd rfl (Or.inl rfl) qe_str))))))) (qss_cons (qs_expr (qe_bm PySem.F.plainAttrs_list PySem.F.slot_list_append PySem.F.type_list_append mt_append (qv 1) (qaN (qv 2) qa_nil))) (qss_one (qs_ret (qv 1))))))), ?_⟩
  have lz := tz.1
  rw [len_list] at lz
  refine ⟨(by show 0 <= sizeLine; decide), fun D hD => ?_⟩
  have s0 := same_new hD (.lst [])
  refine ⟨_, rfl, z, rfl, for_str (fun i σ H' => ∃ (pre : List (List Nat)) (acc : List Nat) (x3 : Option V), σ = [some (.str z), some (.ref D), some (tS acc), x3] /\ Same H H' /\ H' D = some (.lst (pre.map tS)) /\ wr [] z.cps.toList = pre ++ wr acc (z.cps.toList.drop i) /\ pre.length <= 2 * i /\ acc.length <= i)
    ⟨[], [], none, rfl, s0, upd_same, rfl, Nat.zero_le _, Nat.le_refl _⟩ ?_ ?_⟩
  · rintro i c σ H' hc ⟨pre, acc, x3, rfl, sm, hd, he, hp, ha⟩
    have hi := lt_of_some hc
    have c128 := tz.2 c (List.mem_of_getElem? hc)
    have e1 : (Str.length ⟨#[c]⟩) = 1 := rfl
    have la : (mkS acc).length = acc.length := by rw [len_list, mk_list]
    refine ⟨_, rfl, _, _, rfl, rfl, _, rfl, ?_⟩
    show if inS S36 c = true then _ else _
    have ei : inS S36 c = sgnOk c := by
      cases h : sgnOk c with
      | true => exact in36 c c128 h
      | false =>
        cases g : inS S36 c with
        | false => rfl
        | true => rw [m36 c (of_in g)] at h; cases h
    rw [ei]
    rw [drop_cons hc, wr] at he
    by_cases hs : sgnOk c = true
    · rw [if_pos hs]
      rw [if_pos hs] at he
      refine ⟨_, rfl, _, rfl, _, _, rfl, rfl, fits2 (by omega), ?_⟩
      refine ⟨pre, acc ++ [c], some (.str ⟨#[c]⟩), ?_, sm, hd, he, by omega, by rw [List.length_append, List.length_singleton]; omega⟩
      have : mkS acc ++ (⟨#[c]⟩ : Str) = mkS (acc ++ [c]) := str_ext (by rw [app_list, mk_list, mk_list])
      rw [this]
      rfl
    · rw [if_neg hs]
      rw [if_neg hs] at he
      refine ⟨_, rfl, .inl ⟨rfl, _, SqL.of hd⟩, _, rfl, D, _, _, rfl, rfl, hd, fitsL (by rw [List.length_map]; omega), ?_⟩
      refine ⟨_, rfl, .inl ⟨rfl, _, SqL.of upd_same⟩, _, rfl, D, _, _, rfl, rfl, upd_same, fitsL (by rw [List.length_append, List.length_map, List.length_singleton]; omega), ?_⟩
      refine ⟨pre ++ [acc, [c]], [], _, rfl, same_upd hD (same_upd hD sm), ?_, by rw [he]; simp, by rw [List.length_append]; simp only [List.length_cons, List.length_nil]; omega, Nat.zero_le _⟩
      rw [upd_same, List.map_append]
      show some (HO.lst (pre.map tS ++ [V.str (mkS acc)] ++ [V.str ⟨#[c]⟩])) = _
      rw [List.append_assoc]
      rfl
  · rintro σ H' ⟨pre, acc, x3, rfl, sm, hd, he, hp, ha⟩
    rw [List.drop_of_length_le (Nat.le_refl _), wr] at he
    refine ⟨_, rfl, .inl ⟨rfl, _, SqL.of hd⟩, _, rfl, D, _, _, rfl, rfl, hd, fitsL (by rw [List.length_map]; omega), ?_⟩
    refine ⟨_, rfl, q D _ (same_upd hD sm) hD ?_⟩
    rw [upd_same, he, List.map_append]
    rfl
theorem ok_edited (X : Tx K w mg T) : FnOk P w K mg base CX0 1 T.qedited T.d_qedited ["_law_line", "_law_cell"] spEdit := by
  refine X.F_qedited.okQ sc_qedited (fun vs H Q E h => ?_) (fun cdv A outer s H vs Q E hr h => ?_)
  · obtain ⟨_, _, rfl, _⟩ := h
    rfl
  obtain ⟨t, c, rfl, gt, q⟩ := h
  refine ⟨_, (qss_cons (qs_set (i := 2) sc_qedited.nd rfl (Or.inl rfl) qe_str) (qss_cons (qs_set (i := 3) sc_qedited.nd rfl (Or.inl rfl) qe_str) (qss_cons (qs_set (i := 3) sc_qedited.nd rfl (Or.inl rfl) (qe_op op_add_str (qv 3) qe_str)) (qss_cons (qs_set (i := 4) sc_qedited.nd rfl (Or.inl rfl) (qe_op op_mod (qe_op op_mul (qe_op op_add (qv 1) qe_int) qe_int) qe_int)) (qss_cons (qs_set (i := 5) sc_qedited.nd rfl (Or.inl rfl) (qe_op op_mod (qe_op op_mul (qe_op op_add (qv 1) qe_int) qe_int) qe_int)) (qss_cons (qs_set (i := 6) sc_qedited.nd rfl (Or.inl rfl) (qe_op op_mod (qe_op op_fdiv (qv 4) qe_int) (qe_op op_add (qe_callB call_len_str rfl X.z_len PySem.boot_len (qaN (qv 0) qa_nil)) qe_int))) (qss_cons (qs_set (i := 7) sc_qedited.nd rfl (Or.inl rfl) (qe_ix ix_str (qv 2) (qe_op op_mod (qe_op op_fdiv (qv 5) qe_int) qe_int) (fun _ _ => rfl))) (qss_cons (qs_if (qt_cmpR op_eq (qe_op op_mod (qv 5) qe_int) qe_int (nomark _)) (qss_one (qs_set (i := 7) sc_qedited.nd rfl (Or.inl rfl) (qe_ix ix_str (qv 3) (qe_op op_mod (qe_op op_fdiv (qv 5) qe_int) qe_int) (fun _ _ => rfl)))) qss_nil) (qss_cons (qs_if (qt_cmpR op_eq (qe_op op_mod (qv 4) qe_int) qe_int (nomark _)) (qss_one (qs_ret (qe_op op_add_str (qe_op op_add_str (qe_slice sl_str (qv 0) qo_none (qo_some (qv 6))) (qv 7)) (qe_slice sl_str (qv 0) (qo_some (qv 6)) qo_none)))) qss_nil) (qss_cons (qs_if (qt_cmpR op_eq (qe_op op_mod (qv 4) qe_int) qe_int (nomark _)) (qss_one (qs_ret (qe_op op_add_str (qe_slice sl_str (qv 0) qo_none (qo_some (qv 6))) (qe_slice sl_str (qv 0) (qo_some (qe_op op_add (qv 6) qe_int)) qo_none)))) qss_nil) (qss_cons (qs_if (qt_cmpR op_eq (qe_op op_mod (qv 4) qe_int) qe_int (nomark _)) (qss_one (qs_ret (qe_op op_add_str (qe_op op_add_str (qe_slice sl_str (qv 0) qo_none (qo_some (qv 6))) (qv 7)) (qe_slice sl_str (qv 0) (qo_some (qe_op op_add (qv 6) qe_int)) qo_none)))) qss_nil) (qss_one (qs_ret (qv 0)))))))))))))), ?_⟩
  have lsh := sh_len t gt.1
  have asc := sh_asc t gt.1
  have gp := gt.2.1
  generalize sh t = x at lsh asc q ⊢
  have lx : x.length = x.cps.toList.length := len_list x
  refine ⟨_, rfl, _, _, rfl, rfl, fits2 (by decide +kernel), ?_⟩
  refine ⟨_, rfl, _, _, rfl, rfl, _, _, rfl, rfl, .inr ⟨by decide, by decide⟩, _, _, rfl, rfl, (by show (0 : Int) < 2147483647; decide), ?_⟩
  dsimp only
  have nu0 := Int.emod_nonneg ((c + 7) * 48271) (show (2147483647 : Int) ≠ 0 by decide)
  generalize (c + 7) * 48271 % 2147483647 = nu at nu0 ⊢
  refine ⟨_, rfl, _, _, rfl, rfl, _, _, rfl, rfl, .inr ⟨by decide, by decide⟩, _, _, rfl, rfl, (by show (0 : Int) < 2147483629; decide), ?_⟩
  dsimp only
  have ot0 := Int.emod_nonneg ((c + 11) * 69621) (show (2147483629 : Int) ≠ 0 by decide)
  generalize (c + 11) * 69621 % 2147483629 = ot at ot0 ⊢
  have hpos : (0 : Int) < (x.length : Int) + 1 := by omega
  refine ⟨_, rfl, _, _, rfl, rfl, ⟨by decide, by decide⟩, _, rfl, x, rfl, fits2 (by omega), _, _, rfl, rfl, _, _, rfl, rfl, hpos, ?_⟩
  have at0 := Int.emod_nonneg (nu / 4) (show (x.length : Int) + 1 ≠ 0 by omega)
  have at1 := Int.emod_lt_of_pos (nu / 4) hpos
  dsimp only
  generalize nu / 4 % ((x.length : Int) + 1) = at_ at at0 at1 ⊢
  obtain ⟨k, rfl⟩ := Int.eq_ofNat_of_zero_le at0
  obtain ⟨g, hg, ag⟩ := at_any (s := few) (n := ot / 2 % 13) 13 (by decide +kernel) few_asc (Int.emod_nonneg _ (by decide)) (Int.emod_lt_of_pos _ (by decide))
  obtain ⟨g2, hg2, ag2⟩ := at_any (s := many1 ++ many2) (n := ot / 2 % 96) 96 (by decide +kernel) many_asc (Int.emod_nonneg _ (by decide)) (Int.emod_lt_of_pos _ (by decide))
  refine ⟨_, rfl, _, rfl, _, _, rfl, rfl, ⟨by decide, by decide⟩, _, _, rfl, rfl, (by show (0 : Int) < 13; decide), few, _, g, rfl, rfl, (by decide +kernel), hg, ?_⟩
  unfold gName
  dsimp only
  refine seq_join (fun σ' H' => H' = H /\ ∃ (d : Nat) (x2 x3 x5 : Option V), d < 128 /\ σ' = [some (.str x), some (.int c), x2, x3, some (.int nu), x5, some (.int (k : Int)), some (.str ⟨#[d]⟩)]) ?_ ?_
  · rintro σ' H' ⟨rfl, d, x2, x3, x5, ad, rfl⟩
    have e1 : (Str.length ⟨#[d]⟩) = 1 := rfl
    have hk : k <= x.cps.toList.length := by omega
    have a1 := to_list (x := x) (j := k) hk
    have a2 := from_any x (k : Int) k rfl
    have a3 := from_any x ((k : Int) + 1) (k + 1) (by omega)
    have b1 : (Txt.slice x none (some (k : Int))).length <= 1400 := by rw [len_list, a1, List.length_take]; omega
    have b2 : (Txt.slice x (some (k : Int)) none).length <= 1400 := by rw [len_list, a2, List.length_drop]; omega
    have b3 : (Txt.slice x (some ((k : Int) + 1)) none).length <= 1400 := by rw [len_list, a3, List.length_drop]; omega
    have split1 : x.cps.toList = x.cps.toList.take k ++ ([] ++ x.cps.toList.drop k) := by rw [List.nil_append, List.take_append_drop]
    have split2 : ∃ m : List Nat, m.length <= 1 /\ x.cps.toList = x.cps.toList.take k ++ (m ++ x.cps.toList.drop (k + 1)) := by
      by_cases h : k < x.cps.toList.length
      · refine ⟨[x.cps.toList[k]], Nat.le_refl _, ?_⟩
        have := List.drop_eq_getElem_cons h
        conv => lhs; rw [<- List.take_append_drop k x.cps.toList, this]
        rfl
      · refine ⟨[], Nat.zero_le _, ?_⟩
        rw [List.drop_of_length_le (by omega), List.append_nil, List.append_nil, List.take_of_length_le (by omega)]
    have tok : ∀ (z : Str) (n : List Nat) (j : Nat), z.cps.toList = x.cps.toList.take k ++ (n ++ x.cps.toList.drop j) -> n.length <= 1 -> (∀ y ∈ n, y < 128) -> TxOk z := fun z n j e hn hy => by
      refine ⟨?_, fun y hy' => ?_⟩
      · rw [len_list, e, List.length_append, List.length_append, List.length_take, List.length_drop]
        omega
      · rw [e] at hy'
        rcases List.mem_append.mp hy' with h | h
        · exact asc y (List.mem_of_mem_take h)
        · rcases List.mem_append.mp h with h | h
          · exact hy y h
          · exact asc y (List.mem_of_mem_drop h)
    refine ⟨_, rfl, _, _, rfl, rfl, (by show (0 : Int) < 4; decide), rfl, _, rfl, iteDd (fun _ => ?_) (fun _ => ?_)⟩
    · refine ⟨_, rfl, _, rfl, _, rfl, x, rfl, fits2 (by omega), _, rfl, _, _, rfl, rfl, fits2 (by omega), _, rfl, _, rfl, _, rfl, x, rfl, fits2 (by omega), _, _, rfl, rfl, fits2 (by rw [app_len]; omega), ?_⟩
      have ez : (Txt.slice x none (some (k : Int)) ++ (⟨#[d]⟩ : Str) ++ Txt.slice x (some (k : Int)) none).cps.toList = x.cps.toList.take k ++ ([d] ++ x.cps.toList.drop k) := by rw [app_list, app_list, a1, a2]; simp
      exact q _ (tok _ [d] k ez (by simp) (fun y hy => by rw [List.mem_singleton.mp hy]; exact ad)) ⟨_, _, [], [d], split1, ez, by simp, by simp⟩
    refine ⟨_, rfl, _, _, rfl, rfl, (by show (0 : Int) < 4; decide), rfl, _, rfl, iteDd (fun _ => ?_) (fun _ => ?_)⟩
    · refine ⟨_, rfl, _, rfl, _, rfl, x, rfl, fits2 (by omega), _, rfl, _, rfl, _, _, rfl, rfl, _, rfl, x, rfl, fits2 (by omega), _, _, rfl, rfl, fits2 (by omega), ?_⟩
      have ez : (Txt.slice x none (some (k : Int)) ++ Txt.slice x (some ((k : Int) + 1)) none).cps.toList = x.cps.toList.take k ++ ([] ++ x.cps.toList.drop (k + 1)) := by rw [app_list, a1, a3]; simp
      obtain ⟨m, hm, e⟩ := split2
      exact q _ (tok _ [] (k + 1) ez (by simp) (fun y hy => nomatch hy)) ⟨_, _, m, [], e, ez, hm, by simp⟩
    refine ⟨_, rfl, _, _, rfl, rfl, (by show (0 : Int) < 4; decide), rfl, _, rfl, iteDd (fun _ => ?_) (fun _ => ?_)⟩
    · refine ⟨_, rfl, _, rfl, _, rfl, x, rfl, fits2 (by omega), _, rfl, _, _, rfl, rfl, fits2 (by omega), _, rfl, _, rfl, _, _, rfl, rfl, _, rfl, x, rfl, fits2 (by omega), _, _, rfl, rfl, fits2 (by rw [app_len]; omega), ?_⟩
      have ez : (Txt.slice x none (some (k : Int)) ++ (⟨#[d]⟩ : Str) ++ Txt.slice x (some ((k : Int) + 1)) none).cps.toList = x.cps.toList.take k ++ ([d] ++ x.cps.toList.drop (k + 1)) := by rw [app_list, app_list, a1, a3]; simp
      obtain ⟨m, hm, e⟩ := split2
      exact q _ (tok _ [d] (k + 1) ez (by simp) (fun y hy => by rw [List.mem_singleton.mp hy]; exact ad)) ⟨_, _, m, [d], e, ez, hm, by simp⟩
    · exact ⟨_, rfl, q x ⟨by omega, asc⟩ ⟨[], x.cps.toList, [], [], rfl, rfl, by simp, by simp⟩⟩
  · intro F hF
    refine ⟨_, rfl, _, _, rfl, rfl, (by show (0 : Int) < 2; decide), rfl, _, rfl, iteDd (fun _ => ?_) (fun _ => ?_)⟩
    · exact ⟨_, rfl, _, rfl, _, _, rfl, rfl, ⟨by decide, by decide⟩, _, _, rfl, rfl, (by show (0 : Int) < 96; decide), many1 ++ many2, _, g2, rfl, rfl, (by decide +kernel), hg2, hF _ _ ⟨rfl, g2, _, _, _, ag2, rfl⟩⟩
    · exact hF _ _ ⟨rfl, g, _, _, _, ag, rfl⟩
end
end K07
namespace K07
open PySem L2 NS TR
open TM hiding Endd Ms Run Step pcs run_all
def dT (us : List (List Nat)) : List Da := (us.map mkS).map fun n => Da.fl (.str n)
theorem isdsT {K : PySem.W.Frag} {H : Hp} (us : List (List Nat)) : Isds K H (dT us) (us.map tS) := by rw [ts_map]; exact isds_strs _
theorem isdsD {K : PySem.W.Frag} {H : Hp} {xs : List V} (us : List (List Nat)) (e : xs = us.map tS) : Isds K H (dT us) xs := by rw [e]; exact isdsT us
theorem depT (us : List (List Nat)) : depDs (dT us) <= 50 := by unfold dT; rw [dep_strs]; decide
theorem eqT (us ws : List (List Nat)) : eqDs (dT us) (dT ws) = decide (us = ws) := by
  unfold dT
  rw [eqDs_strs]
  exact decide_eq_decide.mpr mk_map_inj
theorem wr_mem : ∀ (L acc : List Nat), ∀ v ∈ wr acc L, v.length <= acc.length + L.length + 1
  | [], acc, v, h => by
    rw [wr] at h
    rw [List.mem_singleton.mp h]
    omega
  | c :: L, acc, v, h => by
    rw [wr] at h
    rw [List.length_cons]
    split at h
    · have := wr_mem L (acc ++ [c]) v h
      rw [List.length_append, List.length_singleton] at this
      omega
    · rcases List.mem_cons.mp h with rfl | h
      · omega
      · rcases List.mem_cons.mp h with rfl | h
        · rw [List.length_singleton]; omega
        · have := wr_mem L [] v h
          rw [List.length_nil] at this
          omega
theorem mkS_eq {u : List Nat} {z : Str} {l : List Nat} (e : z.cps.toList = l) : (tS u = V.str z) ↔ u = l := by
  constructor
  · intro h
    have := congrArg (fun s : Str => s.cps.toList) (V.str.inj h)
    rw [<- e, <- mk_list u]
    exact this
  · intro h
    rw [h, <- e]
    exact congrArg V.str (mk_back z)
theorem four {u : List Nat} : inV (tS u) [V.str "0", V.str "1", V.str "2", V.str "3"] = decide (u = [48] \/ u = [49] \/ u = [50] \/ u = [51]) := by
  have key : ∀ z : Str, ∀ l, z.cps.toList = l -> eqV (V.str z) (tS u) = decide (u = l) := fun z l e => by
    show (z == mkS u) = _
    by_cases h : u = l
    · rw [decide_eq_true h, h, <- e, mk_back]; simp
    · rw [decide_eq_false h]
      have : z ≠ mkS u := fun q => h (by rw [<- e, q, mk_list])
      simpa using this
  unfold inV
  simp only [List.any_cons, List.any_nil, Bool.or_false]
  rw [key _ [48] (by decide), key _ [49] (by decide), key _ [50] (by decide), key _ [51] (by decide)]
  simp only [Bool.decide_or]
theorem allF {u : List Nat} : allB S10 (mkS u) = decide (∀ c ∈ u, figOk c = true) := by
  have := all10 (x := mkS u)
  rw [mk_list] at this
  by_cases h : ∀ c ∈ u, figOk c = true
  · rw [decide_eq_true h]; exact this.mpr h
  · rw [decide_eq_false h]
    cases e : allB S10 (mkS u) with
    | false => rfl
    | true => exact absurd (this.mp e) h
theorem allL {u : List Nat} : allB S26 (mkS u) = decide (∀ c ∈ u, letOk c = true) := by
  have := all26 (x := mkS u)
  rw [mk_list] at this
  by_cases h : ∀ c ∈ u, letOk c = true
  · rw [decide_eq_true h]; exact this.mpr h
  · rw [decide_eq_false h]
    cases e : allB S26 (mkS u) with
    | false => rfl
    | true => exact absurd (this.mp e) h
theorem read_fig {u : List Nat} (hn : u ≠ []) (hf : ∀ c ∈ u, figOk c = true) (hl : u.length <= 18) : PySem.intText? (mkS u) = some (NumText.digitsVal u : Int) := by
  have := intText_digits (x := mkS u) (by rw [mk_list]; exact fun c hc => fig_iff.mp (hf c hc)) (by rw [mk_list]; exact hn) (by rw [len_list, mk_list]; omega)
  rw [mk_list] at this
  exact this
structure AtRow (row : List (List Nat)) (k : Nat) (u R1 : List Nat) : Prop where
  e : row.drop k = u :: sp R1
  hu : ∀ c ∈ u, sgnOk c = true
  hR : Sep R1
  hl : u.length + R1.length <= 20000
def spOne : Sp := fun vs H Q _ => ∃ (a : Addr) (row : List (List Nat)) (k : Nat) (u R1 : List Nat), vs = [.ref a, .int (k : Int)] /\ H a = some (.lst (row.map tS)) /\ AtRow row k u R1 /\ row.length <= 50000 /\
  (∀ t n, oneR u ((sp R1).take 4) = some (t, n) -> ∀ l x H', Same H H' -> H' l = some (.lst [x, .int ((k : Int) + (n : Int))]) -> TmIs H' t x -> Q (.ref l) H') /\ (oneR u ((sp R1).take 4) = none -> ∀ H', Same H H' -> Q .non H')
section
variable {P : Program} {w : World} {K : PySem.W.Frag} {mg : Str -> Option Value} {base : Heap} {T : Adr}
theorem ok_one (X : Tx K w mg T) : FnOk P w K mg base CX0 2 T.qone T.d_qone ["_law_row", "_law_at"] spOne := by
  have G_qmadeof := ok_madeof (P := P) (w := w) (base := base) X
  refine X.F_qone.okQ sc_qone (fun vs H Q E h => ?_) (fun cdv A outer s H vs Q E hr h => ?_)
  · obtain ⟨_, _, _, _, _, rfl, _⟩ := h
    rfl
  obtain ⟨a, row, k, u, R1, rfl, ha, ar, hrow, q, qn⟩ := h
  refine ⟨_, (qss_cons (qs_set (i := 2) sc_qone.nd rfl (Or.inl rfl) (qe_ix ix_list (qv 0) (qv 1) (fun _ _ => rfl))) (qss_cons (qs_set (i := 3) sc_qone.nd rfl (Or.inl rfl) (qe_slice sl_list (qv 0) (qo_some (qe_op op_add (qv 1) qe_int)) (qo_some (qe_op op_add (qv 1) qe_int)))) (qss_cons (qs_if (qw_pt (qw_and (qt_cmpR op_eq (qv 2) qe_str (nomark _)) (qw_and1 (qt_cmpR (op_eqD hr.units) (qv 3) (qe_lst (qaC qe_str (qaC qe_str (qaC qe_str (qaC qe_str qa_nil))))) (nomark _))))) (qss_one (qs_ret (qe_lst (qaT (qe_tup (qaC qe_str qa_nil)) (qaB (qe_op op_add (qv 1) qe_int) qa_nil))))) qss_nil) (qss_cons (qs_if (qw_pt (qw_and (qt_cmpR op_eq (qv 2) qe_str (nomark _)) (qw_and (qt_cmpR (op_eqD hr.units) (qe_slice sl_list (qv 3) qo_none (qo_some qe_int)) (qe_lst (qaC qe_str qa_nil)) (nomark _)) (qw_and (qt_cmpR (op_eqD hr.units) (qe_slice sl_list (qv 3) (qo_some qe_int) qo_none) (qe_lst (qaC qe_str (qaC qe_str qa_nil))) (nomark _)) (qw_and1 (qt_cmpR op_le (qe_callB call_len_str rfl X.z_len PySem.boot_len (qaS (qe_ix ix_list (qv 3) qe_int (fun _ _ => rfl)) qa_nil)) qe_int (nomark _))))))) (qss_one (qs_ret (qe_lst (qaT (qe_tup (qaC qe_str (qaS (qe_ix ix_list (qv 3) qe_int (fun _ _ => rfl)) qa_nil))) (qaB (qe_op op_add (qv 1) qe_int) qa_nil))))) qss_nil) (qss_cons (qs_if (qt_cmpR (op_eqD hr.units) (qe_slice sl_list (qv 3) qo_none (qo_some qe_int)) (qe_lst (qaC qe_str qa_nil)) (nomark _)) (qss_cons (qs_set (i := 4) sc_qone.nd rfl (Or.inl rfl) (qe_ix ix_list (qv 3) qe_int (fun _ _ => rfl))) (qss_cons (qs_if (qw_pt (qw_and (qt_cmpR op_in_seq (qv 2) (qe_lst (qaC qe_str (qaC qe_str (qaC qe_str (qaC qe_str qa_nil))))) rfl) (qw_and (qt_chain op_le op_le qe_int (qe_callB call_len_str rfl X.z_len PySem.boot_len (qaN (qv 4) qa_nil)) qe_int) (qw_and1 (qt_val (qe_call G_qmadeof hr rfl X.m_qmadeof X.F_qmadeof.kp X.b_qmadeof .nil pass0 (qaN (qv 4) (qaC qe_str qa_nil)))))))) (qss_one (qs_ret (qe_lst (qaT (qe_tup (qaC qe_str (qaK (qe_callTy call_int_txt rfl X.z_int PyProof.Rows.boot_int (qaN (qv 2) qa_nil)) (qaN (qv 4) qa_nil)))) (qaB (qe_op op_add (qv 1) qe_int) qa_nil))))) qss_nil) (qss_one (qs_ret qe_non)))) qss_nil) (qss_cons (qs_if (qt_cmpR op_eq (qv 2) qe_str (nomark _)) (qss_one (qs_ret (qe_lst (qaT (qe_tup (qaC qe_str qa_nil)) (qaB (qe_op op_add (qv 1) qe_int) qa_nil))))) qss_nil) (qss_cons (qs_if (qw_pt (qw_or (qt_cmpR op_eq (qv 2) qe_str (nomark _)) (qw_or (qt_cmpR op_gt (qe_callB call_len_str rfl X.z_len PySem.boot_len (qaN (qv 2) qa_nil)) qe_int (nomark _)) (qw_or (qt_not (qt_val (qe_call G_qmadeof hr rfl X.m_qmadeof X.F_qmadeof.kp X.b_qmadeof .nil pass0 (qaN (qv 2) (qaC qe_str qa_nil))))) (qw_or1 (qw_pt (qw_and (qt_cmpR op_eq (qe_ix ix_str (qv 2) qe_int (fun _ _ => rfl)) qe_str (nomark _)) (qw_and1 (qt_cmpR op_ne (qv 2) qe_str (nomark _)))))))))) (qss_one (qs_ret qe_non)) qss_nil) (qss_one (qs_ret (qe_lst (qaT (qe_tup (qaC qe_str (qaK (qe_callTy call_int_txt rfl X.z_int PyProof.Rows.boot_int (qaN (qv 2) qa_nil)) qa_nil))) (qaB (qe_op op_add (qv 1) qe_int) qa_nil)))))))))))), ?_⟩
  have hk : k < row.length := by
    have := congrArg List.length ar.e
    rw [List.length_drop, List.length_cons] at this
    omega
  have gk : row[k]? = some u := by
    have := congrArg (fun l => l[0]?) ar.e
    simpa using this
  have hlu : u.length <= 20000 := by have := ar.hl; omega
  have sps : ∀ v ∈ sp R1, v.length <= 20001 := fun v hv => by
    have hl := ar.hl
    cases R1 with
    | nil => rw [sp] at hv; cases hv
    | cons c r =>
      rw [sp] at hv
      rw [List.length_cons] at hl
      rcases List.mem_cons.mp hv with rfl | hv
      · rw [List.length_singleton]; omega
      · have := wr_mem r [] v hv
        rw [List.length_nil] at this
        omega
  have cutE : cutV (row.map tS) (some ((k : Int) + 1)) (some ((k : Int) + 5)) = ((sp R1).take 4).map tS := by
    rw [cut_mid _ (k + 1) (k + 5) (by omega) _ _ (by omega) (by omega), <- List.map_drop, show k + 5 - (k + 1) = 4 by omega, <- List.map_take]
    have : row.drop (k + 1) = sp R1 := by rw [<- List.drop_drop, ar.e]; rfl
    rw [this]
  have h46 : ((sp R1).take 4).take 1 = [[46]] -> ∃ v r, (sp R1).take 4 = [46] :: v :: r := fun h => by
    obtain ⟨r, rfl⟩ := tk1 h
    obtain ⟨v, R2, e, h1, h2⟩ := span r
    refine ⟨v, (sp R2).take 2, ?_⟩
    rw [sp, e, wr_nil h1 h2]
    rfl
  have ahl : ∀ v ∈ (sp R1).take 4, v.length <= 20001 := fun v hv => sps v (List.mem_of_mem_take hv)
  generalize (sp R1).take 4 = ah at q qn cutE h46 ahl
  refine ⟨_, rfl, _, rfl, a, _, _, tS u, rfl, rfl, SqL.of ha, atI_nat (by rw [List.getElem?_map, gk]; rfl), ?_⟩
  refine ⟨_, rfl, _, rfl, _, _, rfl, rfl, _, rfl, _, rfl, _, _, rfl, rfl, _, rfl, a, _, rfl, SqL.of ha, fun b hb => ?_⟩
  try dsimp only
  rw [cutE]
  have s1 := same_new hb (.lst (ah.map tS))
  have hb1 := upd_same (H := H) (a := b) (o := .lst (ah.map tS))
  generalize upd H b (.lst (ah.map tS)) = H1 at s1 hb1 ⊢
  unfold oneR at q qn
  try unfold gName tNext
  try dsimp only
  refine seq_ifS_by (fun H2 => Same H1 H2 /\ (u = [] /\ ah = [[91], [], [93], []])) (fun H2 => Same H1 H2 /\ ¬ (u = [] /\ ah = [[91], [], [93], []])) (fun Q' qT qF => ?_) (fun H2 ⟨s2, hc⟩ => ?_) (fun H2 ⟨s2, hc⟩ => ?_)
  · refine ⟨_, rfl, rfl, _, rfl, iteDd (fun h => ⟨_, rfl, (by show 4 <= sizeLine; decide), fun p hp => ?_⟩) (fun h => qF H1 ⟨Same.refl _, fun z => h ((mkS_eq rfl).mpr z.1)⟩)⟩
    have hu0 : u = [] := (mkS_eq rfl).mp h
    have sp' := same_new hp (.lst [V.str "[", V.str "", V.str "]", V.str ""])
    refine ⟨b, p, _, _, dT ah, dT [[91], [], [93], []], rfl, rfl, .inr ⟨SqL.of (sp' _ _ hb1), SqL.of upd_same⟩, isdsT ah, isdsD _ (by decide), depT _, _, rfl, ?_⟩
    show Q' (eqDs _ _) _
    rw [eqT]
    by_cases g : ah = [[91], [], [93], []]
    · rw [decide_eq_true g]; exact qT _ ⟨sp', hu0, g⟩
    · rw [decide_eq_false g]; exact qF _ ⟨sp', fun z => g z.2⟩
  · rw [if_pos hc] at q
    refine ⟨(by show 1 <= sizeLine; decide), fun p hp => ⟨_, rfl, _, _, rfl, rfl, (by show 2 <= sizeLine; decide), fun p2 hp2 => ?_⟩⟩
    exact q _ _ rfl p2 (.ref p) _ (s1.trans (s2.trans ((same_new hp _).trans (same_new hp2 _)))) upd_same (by unfold TmIs; exact ⟨p, rfl, same_new hp2 _ _ _ upd_same⟩)
  rw [if_neg hc] at q qn
  have s12 := s1.trans s2
  have hb2 := s2 _ _ hb1
  clear s1 s2 hb1 hc
  try unfold tNext
  try dsimp only
  refine seq_ifS_by (fun H3 => Same H2 H3 /\ (u = [] /\ ah.take 1 = [[34]] /\ ah.drop 2 = [[34], []] /\ (nmOf ah).length <= 40)) (fun H3 => Same H2 H3 /\ ¬ (u = [] /\ ah.take 1 = [[34]] /\ ah.drop 2 = [[34], []] /\ (nmOf ah).length <= 40)) (fun Q' qT qF => ?_) (fun H3 ⟨s3, hc⟩ => ?_) (fun H3 ⟨s3, hc⟩ => ?_)
  · refine ⟨_, rfl, rfl, _, rfl, iteDd (fun h => ⟨_, rfl, _, rfl, b, _, rfl, SqL.of hb2, fun p0 hp0 => ⟨(by show 1 <= sizeLine; decide), fun p hp => ?_⟩⟩) (fun h => qF H2 ⟨Same.refl _, fun z => h ((mkS_eq rfl).mpr z.1)⟩)⟩
    have hu0 : u = [] := (mkS_eq rfl).mp h
    have e1 : cutV (ah.map tS) none (some (1 : Int)) = (ah.take 1).map tS := by rw [List.map_take]; exact cut_take' _ 1
    rw [e1] at hp ⊢
    have s4 := same_new hp0 (.lst ((ah.take 1).map tS))
    have s5 := same_new hp (.lst [V.str "\""])
    have s45 := s4.trans s5
    refine ⟨p0, p, _, _, dT (ah.take 1), dT [[34]], rfl, rfl, .inr ⟨SqL.of (s5 _ _ upd_same), SqL.of upd_same⟩, isdsT _, isdsD _ (by decide), depT _, _, rfl, ?_⟩
    show if eqDs _ _ = true then _ else _
    rw [eqT]
    generalize upd (upd H2 p0 (.lst ((ah.take 1).map tS))) p (.lst [V.str "\""]) = H4 at s45 ⊢
    refine iteDd (fun g1 => ?_) (fun g1 => qF _ ⟨s45, fun z => g1 z.2.1⟩)
    have hb4 := s45 _ _ hb2
    refine ⟨_, rfl, _, rfl, b, _, rfl, SqL.of hb4, fun p2 hp2 => ⟨(by show 2 <= sizeLine; decide), fun p3 hp3 => ?_⟩⟩
    have e2 : cutV (ah.map tS) (some (2 : Int)) none = (ah.drop 2).map tS := by rw [List.map_drop]; exact cut_drop' _ 2
    rw [e2] at hp3 ⊢
    have s6 := same_new hp2 (.lst ((ah.drop 2).map tS))
    have s7 := same_new hp3 (.lst [V.str "\"", V.str ""])
    have s67 := s6.trans s7
    refine ⟨p2, p3, _, _, dT (ah.drop 2), dT [[34], []], rfl, rfl, .inr ⟨SqL.of (s7 _ _ upd_same), SqL.of upd_same⟩, isdsT _, isdsD _ (by decide), depT _, _, rfl, ?_⟩
    show if eqDs _ _ = true then _ else _
    rw [eqT]
    generalize upd (upd H4 p2 (.lst ((ah.drop 2).map tS))) p3 (.lst [V.str "\"", V.str ""]) = H5 at s67 ⊢
    have s47 := s45.trans s67
    refine iteDd (fun g2 => ?_) (fun g2 => qF _ ⟨s47, fun z => g2 z.2.2.1⟩)
    obtain ⟨x0, x1, rfl⟩ : ∃ x0 x1, ah = [x0, x1, [34], []] := by
      match ah, g2 with
      | x0 :: x1 :: r, g2 => exact ⟨x0, x1, by have : r = [[34], []] := g2; rw [this]⟩
    have l1 : x1.length <= 20001 := ahl x1 (by simp)
    have hb5 := s67 _ _ hb4
    have lx : (mkS x1).length = x1.length := by rw [len_list, mk_list]
    refine ⟨_, rfl, b, _, _, tS x1, rfl, rfl, SqL.of hb5, atI_nat (j := 1) rfl, mkS x1, rfl, fits2 (by omega), _, _, rfl, rfl, _, rfl, ?_⟩
    have en : nmOf [x0, x1, [34], []] = x1 := rfl
    rw [lx]
    by_cases g3 : (x1.length : Int) <= 40
    · rw [decide_eq_true g3]
      exact qT _ ⟨s47, hu0, g1, g2, by rw [en]; omega⟩
    · rw [decide_eq_false g3]
      exact qF _ ⟨s47, fun z => g3 (by have := z.2.2.2; rw [en] at this; omega)⟩
  · rw [if_pos hc] at q
    obtain ⟨hu0, g1, g2, g3⟩ := hc
    obtain ⟨x0, x1, rfl⟩ : ∃ x0 x1, ah = [x0, x1, [34], []] := by
      match ah, g2 with
      | x0 :: x1 :: r, g2 => exact ⟨x0, x1, by have : r = [[34], []] := g2; rw [this]⟩
    refine ⟨_, rfl, b, _, _, tS x1, rfl, rfl, SqL.of (s3 _ _ hb2), atI_nat (j := 1) rfl, (by show 2 <= sizeLine; decide), fun p hp => ⟨_, rfl, _, _, rfl, rfl, (by show 2 <= sizeLine; decide), fun p2 hp2 => ?_⟩⟩
    exact q _ _ rfl p2 (.ref p) _ (s12.trans (s3.trans ((same_new hp _).trans (same_new hp2 _)))) upd_same (by unfold TmIs; exact ⟨p, rfl, same_new hp2 _ _ _ upd_same⟩)
  rw [if_neg hc] at q qn
  have s13 := s12.trans s3
  have hb3 := s3 _ _ hb2
  clear s12 s3 hb2 hc
  refine ⟨_, rfl, _, rfl, b, _, rfl, SqL.of hb3, fun p0 hp0 => ⟨(by show 1 <= sizeLine; decide), fun p hp => ?_⟩⟩
  have e1 : cutV (ah.map tS) none (some (1 : Int)) = (ah.take 1).map tS := by rw [List.map_take]; exact cut_take' _ 1
  rw [e1] at hp ⊢
  have s4 := same_new hp0 (.lst ((ah.take 1).map tS))
  have s5 := same_new hp (.lst [V.str "."])
  have s45 := s4.trans s5
  refine ⟨p0, p, _, _, dT (ah.take 1), dT [[46]], rfl, rfl, .inr ⟨SqL.of (s5 _ _ upd_same), SqL.of upd_same⟩, isdsT _, isdsD _ (by decide), depT _, _, rfl, ?_⟩
  show if eqDs _ _ = true then _ else _
  rw [eqT]
  generalize upd (upd H3 p0 (.lst ((ah.take 1).map tS))) p (.lst [V.str "."]) = H4 at s45 ⊢
  have hb4 := s45 _ _ hb3
  have s14 := s13.trans s45
  refine iteDd (fun g1 => ?_) (fun g1 => ?_)
  · rw [if_pos g1] at q qn
    obtain ⟨v, r, e⟩ := h46 g1
    subst e
    have lv : v.length <= 20001 := ahl v (by simp)
    have lvm : (mkS v).length = v.length := by rw [len_list, mk_list]
    have en : nmOf ([46] :: v :: r) = v := rfl
    rw [en] at q qn
    refine ⟨_, rfl, b, _, _, tS v, rfl, rfl, SqL.of hb4, atI_nat (j := 1) rfl, ?_⟩
    try unfold gName tNext
    try dsimp only
    refine seq_ifS_by (fun H5 => Same H4 H5 /\ cVal u v) (fun H5 => Same H4 H5 /\ ¬ cVal u v) (fun Q' qT qF => ?_) (fun H5 ⟨s5, hc⟩ => ?_) (fun H5 ⟨s5, hc⟩ => ?_)
    · refine ⟨_, rfl, (by show 4 <= sizeLine; decide), fun p5 hp5 => ?_⟩
      have s6 := same_new hp5 (.lst [V.str "0", V.str "1", V.str "2", V.str "3"])
      refine ⟨p5, _, rfl, .inl (SqL.of upd_same), rfl, rfl, _, rfl, ?_⟩
      show if inV (tS u) [V.str "0", V.str "1", V.str "2", V.str "3"] = true then _ else _
      rw [four]
      generalize upd H4 p5 (.lst [V.str "0", V.str "1", V.str "2", V.str "3"]) = H6 at s6 ⊢
      refine iteDd (fun g4 => ?_) (fun g4 => qF _ ⟨s6, fun z => g4 z.1⟩)
      refine ⟨_, rfl, mkS v, rfl, fits2 (by omega), _, _, rfl, rfl, _, rfl, iteDd (fun g5 => ⟨_, _, rfl, rfl, _, rfl, iteDd (fun g6 => ?_) (fun g6 => qF _ ⟨s6, fun z => g6 (by have := z.2.1; omega)⟩)⟩) (fun g5 => ⟨_, rfl, iteF (qF _ ⟨s6, fun z => g5 (by have := z.2.1; omega)⟩)⟩)⟩
      refine ⟨_, rfl, mkS v, S26, rfl, _, rfl, ?_⟩
      rw [allL]
      by_cases g7 : ∀ c ∈ v, letOk c = true
      · rw [decide_eq_true g7]
        exact qT _ ⟨s6, g4, ⟨by omega, by omega⟩, g7⟩
      · rw [decide_eq_false g7]
        exact qF _ ⟨s6, fun z => g7 z.2.2⟩
    · rw [if_pos hc] at q
      have rd : PySem.intText? (mkS u) = some ((u.headD 48 - 48 : Nat) : Int) := by
        rcases hc.1 with rfl | rfl | rfl | rfl <;> decide +kernel
      have lu : u.length = 1 := by rcases hc.1 with rfl | rfl | rfl | rfl <;> rfl
      refine ⟨_, rfl, mkS u, _, rfl, rd, by rw [len_list, mk_list, lu]; decide, _, rfl, (by show 3 <= sizeLine; decide), fun p6 hp6 => ⟨_, rfl, _, _, rfl, rfl, (by show 2 <= sizeLine; decide), fun p7 hp7 => ?_⟩⟩
      exact q _ _ rfl p7 (.ref p6) _ (s14.trans (s5.trans ((same_new hp6 _).trans (same_new hp7 _)))) upd_same (by unfold TmIs; exact ⟨p6, rfl, same_new hp7 _ _ _ upd_same⟩)
    · rw [if_neg hc] at qn
      exact qn rfl _ (s14.trans s5)
  rw [if_neg g1] at q qn
  refine ⟨_, rfl, rfl, _, rfl, iteDd (fun h => ?_) (fun h => ?_)⟩
  · have hm : u = markL := (mkS_eq (by decide)).mp h
    rw [if_pos hm] at q
    refine ⟨(by show 1 <= sizeLine; decide), fun p hp => ⟨_, rfl, _, _, rfl, rfl, (by show 2 <= sizeLine; decide), fun p2 hp2 => ?_⟩⟩
    exact q _ _ rfl p2 (.ref p) _ (s14.trans ((same_new hp _).trans (same_new hp2 _))) upd_same (by unfold TmIs; exact ⟨p, rfl, same_new hp2 _ _ _ upd_same⟩)
  have hm : ¬ u = markL := fun z => h ((mkS_eq (by decide)).mpr z)
  rw [if_neg hm] at q qn
  have lum : (mkS u).length = u.length := by rw [len_list, mk_list]
  try unfold tNext
  try dsimp only
  refine seq_ifS_by (fun H5 => Same H4 H5 /\ cNo u) (fun H5 => Same H4 H5 /\ ¬ cNo u) (fun Q' qT qF => ?_) (fun H5 ⟨s5, hc⟩ => ?_) (fun H5 ⟨s5, hc⟩ => ?_)
  · refine ⟨_, rfl, rfl, _, rfl, iteDd (fun g => qT _ ⟨Same.refl _, .inl ((mkS_eq rfl).mp g)⟩) (fun g => ?_)⟩
    have hu0 : u ≠ [] := fun z => g ((mkS_eq rfl).mpr z)
    refine ⟨_, rfl, mkS u, rfl, fits2 (by omega), _, _, rfl, rfl, _, rfl, iteDd (fun g2 => qT _ ⟨Same.refl _, .inr (.inl (by omega))⟩) (fun g2 => ?_)⟩
    refine ⟨_, rfl, mkS u, S10, rfl, _, rfl, ?_⟩
    show if (!allB S10 (mkS u)) = true then _ else _
    rw [allF]
    refine iteNe (fun g3 => qT _ ⟨Same.refl _, .inr (.inr (.inl g3))⟩) (fun g3 => ?_)
    obtain ⟨c, hc, hm'⟩ := head_of hu0
    refine ⟨_, rfl, mkS u, 0, c, rfl, rfl, fits2 (by omega), by rw [mk_list]; exact atI_0 hc, rfl, _, rfl, iteDd (fun g4 => ?_) (fun g4 => qF _ ⟨Same.refl _, ?_⟩)⟩
    · have h48 : c = 48 := one_eq.mp (g4.trans (by rw [nought]))
      refine ⟨_, rfl, rfl, _, rfl, ?_⟩
      show Q' (!decide (tS u = V.str "0")) _
      by_cases g5 : tS u = V.str "0"
      · rw [decide_eq_true g5]
        have hu48 : u = [48] := (mkS_eq (by decide)).mp g5
        refine qF _ ⟨Same.refl _, ?_⟩
        rintro (z | z | z | ⟨_, z⟩)
        · exact hu0 z
        · omega
        · exact z g3
        · exact z hu48
      · rw [decide_eq_false g5]
        exact qT _ ⟨Same.refl _, .inr (.inr (.inr ⟨by rw [hc, h48], fun z => g5 ((mkS_eq (by decide)).mpr z)⟩))⟩
    · rintro (z | z | z | ⟨z, _⟩)
      · exact hu0 z
      · omega
      · exact z g3
      · rw [hc] at z
        exact g4 (by rw [Option.some.inj z, nought])
  · rw [if_pos hc] at qn
    exact qn rfl _ (s14.trans s5)
  · rw [if_neg hc] at q
    have h1 : u ≠ [] := fun z => hc (.inl z)
    have h2 : u.length <= 18 := Nat.le_of_not_lt fun z => hc (.inr (.inl z))
    have h3 : ∀ c ∈ u, figOk c = true := by
      by_cases g : ∀ c ∈ u, figOk c = true
      · exact g
      · exact absurd (.inr (.inr (.inl g))) hc
    refine ⟨_, rfl, mkS u, _, rfl, read_fig h1 h3 h2, by omega, (by show 2 <= sizeLine; decide), fun p6 hp6 => ⟨_, rfl, _, _, rfl, rfl, (by show 2 <= sizeLine; decide), fun p7 hp7 => ?_⟩⟩
    exact q _ _ rfl p7 (.ref p6) _ (s14.trans (s5.trans ((same_new hp6 _).trans (same_new hp7 _)))) upd_same (by unfold TmIs; exact ⟨p6, rfl, same_new hp7 _ _ _ upd_same⟩)
end
end K07
namespace K07
open PySem L2 NS TR
open TM hiding Endd Ms Run Step pcs run_all
theorem while_c {c : TT} {tb : TS} {D : Ends} {σ : St} {H : Hp} (W Y N : Nat -> St -> Hp -> Prop) (m0 : Nat) (h0 : W m0 σ H)
    (hc : ∀ m σ H, W m σ H -> ∀ Q : Bool -> Hp -> Prop, (∀ H1, Y m σ H1 -> Q true H1) -> (∀ H1, N m σ H1 -> Q false H1) -> c σ H Q)
    (hy : ∀ m σ H1, Y m σ H1 -> tb { D with nx := fun σ' H' => ∃ m', m' < m /\ W m' σ' H', ct := fun σ' H' => ∃ m', m' < m /\ W m' σ' H', bk := D.nx } σ H1)
    (hn : ∀ m σ H1, N m σ H1 -> D.nx σ H1) : tWhile c tb D σ H := by
  refine ⟨W, ⟨m0, h0⟩, fun m σ H w => hc m σ H w _ (fun H1 y => ?_) (fun H1 n => ?_)⟩
  · exact iteT ⟨_, fun σ' H' h => h, hy m σ H1 y⟩
  · exact iteF (hn m σ H1 n)
def EntIs (H : Hp) (e : Str × List Tm) (v : V) : Prop := ∃ p vs, v = .ref p /\ H p = some (.lst (.str e.1 :: vs)) /\ L2R (TmIs H) e.2 vs
theorem EntIs.same {H H' : Hp} (s : Same H H') {e : Str × List Tm} {v : V} (h : EntIs H e v) : EntIs H' e v := by
  obtain ⟨p, vs, a, b, c⟩ := h
  exact ⟨p, vs, a, s _ _ b, c.imp fun _ _ h => TmIs.same (sameT s) _ h⟩
structure Calls (H B : Hp) (C : Addr) (op : List (Str × List Tm)) (ps : List Addr) : Prop where
  c : H C = some (.lst (ps.map V.ref))
  cb : B C = none
  nd : ps.Nodup
  nc : C ∉ ps
  pb : ∀ p ∈ ps, B p = none
  en : L2R (EntIs H) op (ps.map V.ref)
theorem Calls.same {H H' B : Hp} {C : Addr} {op : List (Str × List Tm)} {ps : List Addr} (s : Same H H') (h : Calls H B C op ps) : Calls H' B C op ps := ⟨s _ _ h.c, h.cb, h.nd, h.nc, h.pb, h.en.imp fun _ _ => EntIs.same s⟩
theorem Calls.len {H B : Hp} {C : Addr} {op : List (Str × List Tm)} {ps : List Addr} (h : Calls H B C op ps) : op.length = ps.length := by have := h.en.len; rw [List.length_map] at this; exact this.symm
theorem ent_upd {H : Hp} {r : Addr} {xs ys : List V} (hr : H r = some (.lst xs)) {e : Str × List Tm} {p : Addr} (ne : p ≠ r) (h : EntIs H e (.ref p)) : EntIs (upd H r (.lst ys)) e (.ref p) := by
  obtain ⟨p', vs, a, b, c⟩ := h
  cases a
  exact ⟨p, vs, rfl, by rw [upd_ne ne]; exact b, c.imp fun _ _ h => TmIs.same (sameT_lst hr) _ h⟩
theorem ents_upd {H : Hp} {r : Addr} {xs ys : List V} (hr : H r = some (.lst xs)) : ∀ {op : List (Str × List Tm)} {ps : List Addr}, r ∉ ps -> L2R (EntIs H) op (ps.map V.ref) -> L2R (EntIs (upd H r (.lst ys))) op (ps.map V.ref)
  | [], [], _, _ => .nil
  | [], p :: ps, _, h => by have := h.len; simp at this
  | e :: op, [], _, h => by have := h.len; simp at this
  | e :: op, p :: ps, hn, h => by
    obtain ⟨v, r', e1, h1, h2⟩ := h.inv_cons
    have e1 : V.ref p :: ps.map V.ref = v :: r' := e1
    obtain ⟨a1, a2⟩ := List.cons.inj e1
    subst a1 a2
    exact .cons (ent_upd hr (fun z => hn (by rw [z]; simp)) h1) (ents_upd hr (fun z => hn (by simp [z])) h2)
theorem app_one {α : Type} {l : List α} (h : l ≠ []) : ∃ a x, l = a ++ [x] := by
  rcases snoc_or l with h' | h'
  · exact absurd h' h
  · exact h'
theorem Calls.last {H B : Hp} {C : Addr} {op : List (Str × List Tm)} {d : Str} {ts : List Tm} {ps : List Addr} (h : Calls H B C (op ++ [(d, ts)]) ps) : ∃ qs p vs, ps = qs ++ [p] /\ H p = some (.lst (.str d :: vs)) /\ L2R (TmIs H) ts vs /\ L2R (EntIs H) op (qs.map V.ref) := by
  have hl := h.len
  rw [List.length_append] at hl
  obtain ⟨qs, p, rfl⟩ := app_one (l := ps) (fun z => by rw [z] at hl; simp at hl)
  have e := h.en
  obtain ⟨xs, ys, e1, g1, g2⟩ := e.unapp
  rw [List.map_append] at e1
  have ly := g2.len
  obtain ⟨e2, e3⟩ := List.append_inj' e1 (by rw [List.length_map]; simpa using ly.symm)
  subst e2 e3
  obtain ⟨v, r, e4, ⟨p', vs, a, b, c⟩, _⟩ := g2.inv_cons
  have e4 : [V.ref p] = v :: r := e4
  obtain ⟨a1, _⟩ := List.cons.inj e4
  rw [<- a1] at a
  cases a
  exact ⟨qs, p, vs, rfl, b, c, g1⟩
theorem deed_in {u : List Nat} : inV (tS u) (deeds.map V.str) = decide (mkS u ∈ deeds) := by
  unfold inV
  rw [List.any_map]
  by_cases h : mkS u ∈ deeds
  · rw [decide_eq_true h, List.any_eq_true]
    exact ⟨_, h, by show (mkS u == mkS u) = true; simp⟩
  · rw [decide_eq_false h, List.any_eq_false]
    intro x hx
    show ¬ (x == mkS u) = true
    intro z
    have z : x = mkS u := by simpa using z
    rw [z] at hx
    exact h hx
def Due (L : List Nat) (op : List (Str × List Tm)) (R : List Nat) : Prop := ∃ c dp, ∀ fin, TM.Run m0s (TM.pcs [] L) fin ↔ TM.Run ⟨op, none, c, dp⟩ (TM.pcs [] R) fin
def DueT (L : List Nat) (op : List (Str × List Tm)) (t : Tm) (R : List Nat) : Prop := ∃ c dp, ∀ fin, TM.Run m0s (TM.pcs [] L) fin ↔ Goes op t c dp R fin
theorem Due.opn {L R' : List Nat} {op : List (Str × List Tm)} {d : Str} (hd : d ∈ deeds) (h : Due L op (d.cps.toList ++ 40 :: R')) : Due L (op ++ [(d, [])]) R' := by
  obtain ⟨c, dp, h⟩ := h
  exact ⟨c + 1, dp, fun fin => (h fin).trans (open_iff hd)⟩
theorem DueT.close {L r : List Nat} {op : List (Str × List Tm)} {d : Str} {ts : List Tm} {t : Tm} (h3 : ts.length + 1 <= 3) (h : DueT L (op ++ [(d, ts)]) t (41 :: r)) : DueT L op (.call d (ts ++ [t])) r := by
  obtain ⟨c, dp, h⟩ := h
  exact ⟨c, dp, fun fin => (h fin).trans (close_iff h3)⟩
theorem DueT.comma {L r : List Nat} {op : List (Str × List Tm)} {d : Str} {ts : List Tm} {t : Tm} (h : DueT L (op ++ [(d, ts)]) t (44 :: r)) : Due L (op ++ [(d, ts ++ [t])]) r := by
  obtain ⟨c, dp, h⟩ := h
  exact ⟨c, dp, fun fin => (h fin).trans comma_iff⟩
theorem DueT.told {L : List Nat} {t : Tm} (h : DueT L [] t []) : L = (sh t).cps.toList /\ Wf t := by
  obtain ⟨c, dp, h⟩ := h
  exact sound ((h ⟨[], some t, c, dp⟩).mpr rfl)
theorem Due.none {u R1 L : List Nat} {op : List (Str × List Tm)} (hu : ∀ c ∈ u, sgnOk c = true) (hR : Sep R1) (hno : ∀ d ∈ deeds, ∀ r, u = d.cps.toList -> R1 = 40 :: r -> False) (h : oneR u ((sp R1).take 4) = none) (hd : Due L op (u ++ R1)) : ¬ ∃ t, L = (sh t).cps.toList /\ Wf t := by
  rintro ⟨t, e, w⟩
  obtain ⟨c, dp, hd⟩ := hd
  have := run_of w
  rw [<- e] at this
  exact none_iff hu hR hno h _ _ _ _ ((hd _).mp this)
theorem DueT.no {L R : List Nat} {op : List (Str × List Tm)} {t : Tm} (h : DueT L op t R) (h1 : ¬ (R = [] /\ op = [])) (h2 : op = [] \/ ¬ ∃ r, R = 44 :: r) (h3 : ¬ (op ≠ [] /\ (sp R).take 2 = [[41], []] /\ ∀ pre d ts, op = pre ++ [(d, ts)] -> ts.length + 1 <= 3)) : ¬ ∃ t, L = (sh t).cps.toList /\ Wf t := by
  rintro ⟨u, e, w⟩
  obtain ⟨c, dp, h⟩ := h
  have g := run_of w
  rw [<- e] at g
  have g := (h _).mp g
  cases R with
  | nil =>
    have g : (⟨[], some u, parts u, depth u⟩ : TM.Ms) = ⟨op, some t, c, dp⟩ := g
    have : op = [] := (congrArg TM.Ms.op g).symm
    exact h1 ⟨rfl, this⟩
  | cons x r =>
    rcases g with ⟨rfl, pre, d, ts, e1, g⟩ | ⟨rfl, pre, d, ts, e1, l3, g⟩
    · rcases h2 with h2 | h2
      · rw [h2] at e1
        simp at e1
      · exact h2 ⟨r, rfl⟩
    · refine h3 ⟨fun z => by rw [z] at e1; simp at e1, ?_, fun pre' d' ts' e2 => ?_⟩
      · have hs := (goes_stop (goes_iff.mp g)).sep
        have w2 : wr [] ([] ++ r) = [] :: sp r := wr_nil (fun _ h => nomatch h) hs
        have w2 : wr [] r = [] :: sp r := w2
        rw [sp, w2]
        rfl
      · rw [e1] at e2
        obtain ⟨_, q⟩ := List.append_inj' e2 rfl
        cases q
        exact l3
def spDue : Sp := fun vs H Q _ => ∃ z : Str, vs = [.str z] /\ TxOk z /\ (∀ t v H', z = sh t -> Wf t -> Same H H' -> TmIs H' t v -> Q v H') /\ ((¬ ∃ t, z = sh t /\ Wf t) -> ∀ H', Same H H' -> Q .non H')
theorem sp_nil {R : List Nat} (h : sp R = []) : R = [] := by
  cases R with
  | nil => rfl
  | cons c r => rw [sp] at h; cases h
end K07
namespace K07
open PySem L2 NS TR
open TM hiding Endd Ms Run Step pcs run_all
theorem deedAt_get {i : Nat} (h : i < 12) : deeds[i]? = some (deedAt (0 + (i : Int))) := by
  unfold deedAt
  have e : ((0 + (i : Int)) % 12).toNat = i := by omega
  have hl : deeds.length = 12 := by decide
  rw [e, List.getD_eq_getElem?_getD, List.getElem?_eq_getElem (by omega)]
  rfl
def Top (L : List Nat) (row : List (List Nat)) (H : Hp) (D C : Addr) (m : Nat) (z : Str) : St -> Hp -> Prop := fun σ H' => ∃ (k : Nat) (op : List (Str × List Tm)) (ps : List Addr) (R : List Nat) (x4 x5 x6 : Option V), σ = [some (.str z), some (.ref D), some (.ref C), some (.int (k : Int)), x4, x5, x6] /\ m + k = row.length /\ Same H H' /\ H' D = some (.lst (row.map tS)) /\ Calls H' H C op ps /\ ps.length <= k /\ (∀ e ∈ op, e.2.length <= k) /\ row.drop k = wr [] R /\ R.length <= 20000 /\ Due L op R
def Mid (F : List (Str × List Tm) -> List Nat -> Prop) (L : List Nat) (row : List (List Nat)) (H : Hp) (D C : Addr) (k0 m : Nat) (z : Str) : St -> Hp -> Prop := fun σ H' => ∃ (k : Nat) (op : List (Str × List Tm)) (ps : List Addr) (R : List Nat) (t : Tm) (v : V) (x4 x6 : Option V), σ = [some (.str z), some (.ref D), some (.ref C), some (.int (k : Int)), x4, some v, x6] /\ k0 < k /\ k <= row.length /\ m = op.length /\ Same H H' /\ H' D = some (.lst (row.map tS)) /\ Calls H' H C op ps /\ ps.length <= k /\ (∀ e ∈ op, e.2.length <= k) /\ row.drop k = sp R /\ Sep R /\ R.length <= 20000 /\ TmIs H' t v /\ DueT L op t R /\ F op R
def Closes (op : List (Str × List Tm)) (R : List Nat) : Prop := op ≠ [] /\ (sp R).take 2 = [[41], []] /\ ∀ pre d ts, op = pre ++ [(d, ts)] -> ts.length + 1 <= 3
theorem oneR_bnd {u : List Nat} {ah : List (List Nat)} {t : Tm} {n : Nat} (h46 : ah.take 1 = [[46]] -> 2 <= ah.length) (h : oneR u ah = some (t, n)) : 0 < n /\ n <= ah.length + 1 := by
  unfold oneR at h
  split at h
  · rename_i hc
    cases h
    rw [hc.2]
    decide
  split at h
  · rename_i hc
    cases h
    have := congrArg List.length hc.2.2.1
    rw [List.length_drop] at this
    have : ah.length - 2 = 2 := this
    omega
  split at h
  · rename_i hc
    split at h
    · cases h
      have := h46 hc
      omega
    · cases h
  split at h
  · cases h; omega
  split at h
  · cases h
  · cases h; omega
theorem h46_of {R1 : List Nat} (h : ((sp R1).take 4).take 1 = [[46]]) : 2 <= ((sp R1).take 4).length := by
  obtain ⟨r, rfl⟩ := tk1 h
  obtain ⟨v, R2, e, h1, h2⟩ := span r
  rw [sp, e, wr_nil h1 h2]
  simp
section
variable {P : Program} {w : World} {K : PySem.W.Frag} {mg : Str -> Option Value} {base : Heap} {T : Adr}
theorem ok_due (X : Tx K w mg T) : FnOk P w K mg base CX0 3 T.qdue T.d_qdue ["_law_line"] spDue := by
  have G_qwords := (ok_words (P := P) (w := w) (base := base) X).mono (show 1 <= 2 by decide)
  have G_qone := ok_one (P := P) (w := w) (base := base) X
  have G_qdeed := (ok_deedL (P := P) (w := w) (base := base) X).mono (show 1 <= 2 by decide)
  refine X.F_qdue.okQ sc_qdue (fun vs H Q E h => ?_) (fun cdv A outer s H vs Q E hr h => ?_)
  · obtain ⟨_, rfl, _⟩ := h
    rfl
  obtain ⟨z, rfl, tz, q, qn⟩ := h
  refine ⟨_, (qss_cons (qs_set (i := 1) sc_qdue.nd rfl (Or.inl rfl) (qe_call G_qwords hr rfl X.m_qwords X.F_qwords.kp X.b_qwords .nil pass0 (qaN (qv 0) qa_nil))) (qss_cons (qs_set (i := 2) sc_qdue.nd rfl (Or.inl rfl) (qe_lst qa_nil)) (qss_cons (qs_set (i := 3) sc_qdue.nd rfl (Or.inl rfl) qe_int) (qss_cons (qs_while PassesOwn.never (qt_cmpR op_lt (qv 3) (qe_callB call_len_seq rfl X.z_len PySem.boot_len (qaN (qv 1) qa_nil)) (nomark _)) (qss_one (qs_if (qw_pt (qw_and (qt_cmpR (op_eqD hr.units) (qe_slice sl_list (qv 1) (qo_some (qe_op op_add (qv 3) qe_int)) (qo_some (qe_op op_add (qv 3) qe_int))) (qe_lst (qaC qe_str qa_nil)) (nomark _)) (qw_and1 (qt_cmpR op_in_seq (qe_ix ix_list (qv 1) (qv 3) (fun _ _ => rfl)) (qe_comp (ys := []) (js := []) rfl rfl (qi_range1 rfl X.z_range (qaC qe_int qa_nil)) (fun _ _ _ _ _ => qif_nil) (fun _ _ _ _ _ => (qe_call G_qdeed hr rfl X.m_qdeed X.F_qdeed.kp X.b_qdeed .nil pass0 (qaN (qv 0) qa_nil)))) rfl)))) (qss_cons (qs_expr (qe_bm PySem.F.plainAttrs_list PySem.F.slot_list_append PySem.F.type_list_append mt_append (qv 2) (qaL (qe_lst (qaS (qe_ix ix_list (qv 1) (qv 3) (fun _ _ => rfl)) qa_nil)) qa_nil))) (qss_one (qs_set (i := 3) sc_qdue.nd rfl (Or.inl rfl) (qe_op op_add (qv 3) qe_int)))) (qss_cons (qs_set (i := 4) sc_qdue.nd rfl (Or.inl rfl) (qe_call G_qone hr rfl X.m_qone X.F_qone.kp X.b_qone .nil pass0 (qaN (qv 1) (qaN (qv 3) qa_nil)))) (qss_cons (qs_if (qt_isN (qv 4)) (qss_one (qs_ret qe_non)) qss_nil) (qss_cons (qs_set (i := 5) sc_qdue.nd rfl (Or.inl rfl) (qe_ix ix_list (qv 4) qe_int (fun _ _ => rfl))) (qss_cons (qs_set (i := 3) sc_qdue.nd rfl (Or.inl rfl) (qe_ix ix_list (qv 4) qe_int (fun _ _ => rfl))) (qss_cons (qs_while PassesOwn.never (qw_pt (qw_and (qt_cmpR (op_neNil hr.units) (qv 2) (qe_lst qa_nil) (nomark _)) (qw_and (qt_cmpR (op_eqD hr.units) (qe_slice sl_list (qv 1) (qo_some (qv 3)) (qo_some (qe_op op_add (qv 3) qe_int))) (qe_lst (qaC qe_str (qaC qe_str qa_nil))) (nomark _)) (qw_and1 (qt_cmpR op_lt (qe_callB call_len_seq rfl X.z_len PySem.boot_len (qaS (qe_ix ix_list (qv 2) (qe_un un_neg qe_int) (fun _ _ => rfl)) qa_nil)) qe_int (nomark _)))))) (qss_cons (qs_set (i := 6) sc_qdue.nd rfl (Or.inl rfl) (qe_bm0 PySem.F.plainAttrs_list PySem.F.slot_list_pop PySem.F.type_list_pop mt_pop (qv 2))) (qss_cons (qs_set (i := 5) sc_qdue.nd rfl (Or.inl rfl) (qe_tup (qaC qe_str (qaS (qe_ix ix_list (qv 6) qe_int (fun _ _ => rfl)) (qaK (qe_callTy call_tuple_of rfl X.z_tuple PyProof.Rows.boot_tuple (qaB (qe_op op_cat (qe_slice sl_list (qv 6) (qo_some qe_int) qo_none) (qe_lst (qaN (qv 5) qa_nil))) qa_nil)) qa_nil))))) (qss_one (qs_set (i := 3) sc_qdue.nd rfl (Or.inl rfl) (qe_op op_add (qv 3) qe_int)))))) (qss_cons (qs_if (qw_pt (qw_and (qt_cmpR op_eq (qv 3) (qe_callB call_len_seq rfl X.z_len PySem.boot_len (qaN (qv 1) qa_nil)) (nomark _)) (qw_and1 (qt_cmpR (op_eqNil hr.units) (qv 2) (qe_lst qa_nil) (nomark _))))) (qss_one (qs_ret (qv 5))) qss_nil) (qss_cons (qs_if (qw_pt (qw_or (qt_cmpR (op_eqNil hr.units) (qv 2) (qe_lst qa_nil) (nomark _)) (qw_or1 (qt_cmpR (op_neD hr.units) (qe_slice sl_list (qv 1) (qo_some (qv 3)) (qo_some (qe_op op_add (qv 3) qe_int))) (qe_lst (qaC qe_str qa_nil)) (nomark _))))) (qss_one (qs_ret qe_non)) qss_nil) (qss_cons (qs_expr (qe_bm PySem.F.plainAttrs_list PySem.F.slot_list_append PySem.F.type_list_append mt_append (qe_ix ix_list (qv 2) (qe_un un_neg qe_int) (fun _ _ => rfl)) (qaN (qv 5) qa_nil))) (qss_one (qs_set (i := 3) sc_qdue.nd rfl (Or.inl rfl) (qe_op op_add (qv 3) qe_int)))))))))))))) (qss_one (qs_ret qe_non)))))), ?_⟩
  have q : ∀ t v H', z.cps.toList = (sh t).cps.toList -> Wf t -> Same H H' -> TmIs H' t v -> Q v H' := fun t v H' e => q t v H' (str_ext e)
  have qn : (¬ ∃ t, z.cps.toList = (sh t).cps.toList /\ Wf t) -> ∀ H', Same H H' -> Q .non H' := fun hn => qn fun ⟨t, e, w⟩ => hn ⟨t, by rw [e], w⟩
  refine ⟨_, rfl, z, rfl, tz, fun D H1 s1 nD hD => ?_⟩
  have lz := tz.1
  rw [len_list] at lz
  have lrow := wr_len z.cps.toList []
  generalize hL : z.cps.toList = L at *
  obtain ⟨row, hrow⟩ : ∃ row, row = wr [] L := ⟨_, rfl⟩
  rw [<- hrow] at hD lrow
  refine ⟨(by show 0 <= sizeLine; decide), fun C hC => ?_⟩
  have s2 := same_new hC (.lst [])
  have cD : C ≠ D := fun e => by rw [e, hD] at hC; cases hC
  have hC0 : H1 C = none := hC
  have q : ∀ t v H', L = (sh t).cps.toList -> Wf t -> Same H1 H' -> TmIs H' t v -> Q v H' := fun t v H' e w s => q t v H' e w (s1.trans s)
  have qn : (¬ ∃ t, L = (sh t).cps.toList /\ Wf t) -> ∀ H', Same H1 H' -> Q .non H' := fun hn H' s => qn hn H' (s1.trans s)
  refine while_c (Top L row H1 D C · z) (fun m σ H' => Top L row H1 D C m z σ H') (fun _ _ _ => False) row.length ?_ ?_ ?_ (fun _ _ _ h => nomatch h)
  · refine ⟨0, [], [], L, none, none, none, rfl, rfl, s2, s2 _ _ hD, ⟨upd_same, hC0, List.nodup_nil, (fun h => nomatch h), (fun p h => nomatch h), .nil⟩, Nat.le_refl _, (fun e h => nomatch h), by rw [hrow]; rfl, lz, 0, 0, fun fin => Iff.rfl⟩
  · rintro m σ H' ⟨k, op, ps, R, x4, x5, x6, rfl, hm, sm, hD', cs, hps, hop, hr, hR, due⟩ Q' qT qF
    refine ⟨_, rfl, _, rfl, D, _, rfl, .inl (SqL.of hD'), _, _, rfl, rfl, _, rfl, ?_⟩
    have hk : (k : Int) < ((row.map tS).length : Int) := by
      rw [List.length_map]
      have := congrArg List.length hr
      rw [List.length_drop] at this
      have p : 0 < (wr [] R).length := by
        obtain ⟨u, R1, e, hu, hR1⟩ := span R
        rw [e, wr_nil hu hR1]
        simp
      omega
    rw [decide_eq_true hk]
    exact qT _ ⟨k, op, ps, R, x4, x5, x6, rfl, hm, sm, hD', cs, hps, hop, hr, hR, due⟩
  · rintro m σ H' ⟨k, op, ps, R, x4, x5, x6, rfl, hm, sm, hD', cs, hps, hop, hr, hR, due⟩
    obtain ⟨u, R1, eR, hu, hR1⟩ := span R
    subst eR
    rw [wr_nil hu hR1] at hr
    rw [List.length_append] at hR
    have ar : AtRow row k u R1 := ⟨hr, hu, hR1, hR⟩
    have hkl : k < row.length := by
      have := congrArg List.length hr
      rw [List.length_drop, List.length_cons] at this
      omega
    have gk : row[k]? = some u := by
      have := congrArg (fun l => l[0]?) hr
      simpa using this
    have dr1 : row.drop (k + 1) = sp R1 := by rw [<- List.drop_drop, hr]; rfl
    have cut1 : cutV (row.map tS) (some ((k : Int) + 1)) (some ((k : Int) + 2)) = ((sp R1).take 1).map tS := by
      rw [cut_mid _ (k + 1) (k + 2) (by omega) _ _ (by omega) (by omega), <- List.map_drop, show k + 2 - (k + 1) = 1 by omega, <- List.map_take, dr1]
    try unfold tNext
    try dsimp only
    refine ifS_by (fun H2 => Same H' H2 /\ (sp R1).take 1 = [[40]] /\ mkS u ∈ deeds) (fun H2 => Same H' H2 /\ ¬ ((sp R1).take 1 = [[40]] /\ mkS u ∈ deeds)) (fun Q' qT qF => ?_) (fun H2 ⟨s3, h40, hdd⟩ => ?_) (fun H2 ⟨s3, hno⟩ => ?_)
    · refine ⟨_, rfl, _, rfl, _, _, rfl, rfl, _, rfl, _, rfl, _, _, rfl, rfl, _, rfl, D, _, rfl, SqL.of hD', fun b hb => ?_⟩
      dsimp only
      rw [cut1]
      refine ⟨(by show 1 <= sizeLine; decide), fun p hp => ?_⟩
      have s4 := same_new hb (.lst (((sp R1).take 1).map tS))
      have s5 := same_new hp (.lst [V.str "("])
      have s45 := s4.trans s5
      refine ⟨b, p, _, _, dT ((sp R1).take 1), dT [[40]], rfl, rfl, .inr ⟨SqL.of (s5 _ _ upd_same), SqL.of upd_same⟩, isdsT _, isdsD _ (by decide), depT _, _, rfl, ?_⟩
      show if eqDs _ _ = true then _ else _
      rw [eqT]
      generalize upd (upd H' b (.lst (((sp R1).take 1).map tS))) p (.lst [V.str "("]) = H4 at s45 ⊢
      refine iteDd (fun g1 => ?_) (fun g1 => qF _ ⟨s45, fun z => g1 z.1⟩)
      have hD4 := s45 _ _ hD'
      refine ⟨_, rfl, _, rfl, D, _, _, tS u, rfl, rfl, SqL.of hD4, atI_nat (by rw [List.getElem?_map, gk]; rfl), _, rfl, (by decide), (by decide), fun B hB => ?_⟩
      refine comp_rng (fun i acc H6 => acc = (deeds.take i).map V.str /\ acc.length = i /\ Same H4 H6 /\ H6 B = some (.lst acc)) (by decide) ⟨rfl, rfl, same_new hB _, upd_same⟩ (fun i acc H6 ⟨_, l, _, d⟩ => ⟨d, l⟩) ?_ ?_
      · rintro i m' acc H6 hi ⟨e, l, s6, d⟩ hm'
        have hi : i < 12 := hi
        refine ⟨_, rfl, _, rfl, fun H7 s7 => cstep hi hm' (s7 _ _ d) ⟨?_, by rw [List.length_append, l]; rfl, same_upd hB (s6.trans s7), upd_same⟩⟩
        rw [List.take_succ, deedAt_get hi, e, List.map_append]
        rfl
      · rintro acc H6 ⟨e, l, s6, d⟩
        have e : acc = deeds.map V.str := e
        refine ⟨B, _, rfl, .inl (SqL.of d), rfl, by rw [e]; decide, _, rfl, ?_⟩
        show Q' (inV (tS u) acc) _
        rw [e, deed_in]
        by_cases g2 : mkS u ∈ deeds
        · rw [decide_eq_true g2]; exact qT _ ⟨s45.trans s6, g1, g2⟩
        · rw [decide_eq_false g2]; exact qF _ ⟨s45.trans s6, fun z => g2 z.2⟩
    · -- a call begins
      obtain ⟨r, e40⟩ : ∃ r, R1 = 40 :: r := by
        obtain ⟨c, r, e, h1, _⟩ := tks (n := 0) h40
        cases h1
        exact ⟨r, e⟩
      subst e40
      have cs2 := cs.same s3
      have hD2 := s3 _ _ hD'
      have hl2 : k + 2 <= row.length := by
        have := congrArg List.length dr1
        rw [List.length_drop, sp, List.length_cons] at this
        have p : 0 < (wr [] r).length := by
          obtain ⟨u, R2, e, hu, hR2⟩ := span r
          rw [e, wr_nil hu hR2]
          simp
        omega
      refine ⟨_, rfl, .inl ⟨rfl, _, SqL.of cs2.c⟩, _, rfl, _, rfl, D, _, _, tS u, rfl, rfl, SqL.of hD2, atI_nat (by rw [List.getElem?_map, gk]; rfl), (by show 1 <= sizeLine; decide), fun p hp => ?_⟩
      have s4 := same_new hp (.lst [tS u])
      have cs4 := cs2.same s4
      have lps := cs4.len
      refine ⟨C, _, _, rfl, rfl, cs4.c, fitsL (by rw [List.length_map]; omega), ?_⟩
      refine ⟨_, rfl, _, _, rfl, rfl, m - 2, by omega, k + 2, op ++ [(mkS u, [])], ps ++ [p], r, _, _, _, rfl, by omega, ?_⟩
      have pC : p ≠ C := fun e => by rw [e, cs2.c] at hp; cases hp
      have pps : p ∉ ps := fun m => by
        obtain ⟨i, hi⟩ := List.getElem?_of_mem m
        obtain ⟨e, _, p', vs, e1, hx, _⟩ := cs2.en.get (i := i) (v := .ref p) (by rw [List.getElem?_map, hi]; rfl)
        cases e1
        rw [hp] at hx
        cases hx
      have pB : H1 p = none := (sm.trans s3).free hp
      refine ⟨same_upd hC0 (sm.trans (s3.trans s4)), by rw [upd_ne cD.symm]; exact s4 _ _ hD2, ⟨by rw [upd_same, List.map_append]; rfl, hC0, ?_, ?_, ?_, ?_⟩, by rw [List.length_append, List.length_singleton]; omega, ?_, ?_, ?_, ?_⟩
      · exact List.nodup_append.mpr ⟨cs.nd, by simp, fun a ha b hb => by rw [List.mem_singleton.mp hb]; exact fun z => pps (z ▸ ha)⟩
      · intro m
        rcases List.mem_append.mp m with m | m
        · exact cs.nc m
        · exact pC (List.mem_singleton.mp m).symm
      · intro a ha
        rcases List.mem_append.mp ha with ha | ha
        · exact cs.pb a ha
        · rw [List.mem_singleton.mp ha]; exact pB
      · rw [List.map_append]
        refine (ents_upd cs4.c cs.nc cs4.en).snoc ⟨p, [], rfl, ?_, .nil⟩
        rw [upd_ne pC, upd_same]
        rfl
      · intro e he
        rcases List.mem_append.mp he with he | he
        · have := hop e he; omega
        · rw [List.mem_singleton.mp he]; exact Nat.zero_le _
      · have : row.drop (k + 2) = (row.drop (k + 1)).drop 1 := by rw [List.drop_drop]
        rw [this, dr1]
        rfl
      · rw [List.length_cons] at hR; omega
      · have := due
        rw [show u = (mkS u).cps.toList by rw [mk_list]] at this
        exact this.opn hdd
    · -- a leaf
      have hno' : ∀ d ∈ deeds, ∀ r, u = d.cps.toList -> R1 = 40 :: r -> False := fun d hd r e1 e2 => hno ⟨by rw [e2]; rfl, by rw [e1, mk_back]; exact hd⟩
      have hD2 := s3 _ _ hD'
      have cs2 := cs.same s3
      refine ⟨_, rfl, _, rfl, D, row, k, u, R1, rfl, hD2, ar, by omega, (fun t n ho l x H3 s4 hl htm => ?_), (fun ho H3 s4 => ?_)⟩
      · obtain ⟨R', lf, hs', hdr, iff⟩ := leaf_iff hu hR1 hno' ho
        obtain ⟨n0, n1⟩ := oneR_bnd h46_of ho
        have hlen : k + n <= row.length := by
          have e1 := congrArg List.length hr
          rw [List.length_drop, List.length_cons] at e1
          rw [List.length_take] at n1
          omega
        refine ⟨_, rfl, _, rfl, iteNd (fun z => nomatch z) ?_⟩
        refine ⟨_, rfl, l, _, _, x, rfl, rfl, SqL.of hl, atI_nat (j := 0) rfl, ?_⟩
        refine ⟨_, rfl, l, _, _, _, rfl, rfl, SqL.of hl, atI_nat (j := 1) rfl, ?_⟩
        have cs3 := cs2.same s4
        have sm3 := sm.trans (s3.trans s4)
        have hD3 := s4 _ _ hD2
        have hR' : R'.length <= 20000 := by
          have := congrArg List.length lf.e
          rw [List.length_append, List.length_append] at this
          omega
        have lps := cs.len
        refine while_c (fun m' => Mid (fun _ _ => True) L row H1 D C k m' z) (fun m' => Mid Closes L row H1 D C k m' z) (fun m' => Mid (fun op R => ¬ Closes op R) L row H1 D C k m' z) op.length ?_ ?_ ?_ ?_
        · refine ⟨k + n, op, ps, R', t, x, _, _, rfl, by omega, hlen, rfl, sm3, hD3, cs3, by omega, fun e he => ?_, ?_, hs', hR', htm, ?_, trivial⟩
          · have := hop e he; omega
          · rw [<- List.drop_drop, hr]; exact hdr
          · obtain ⟨c, dp, h⟩ := due
            exact ⟨_, _, fun fin => (h fin).trans (iff op c dp fin)⟩
        · rintro m' σ H' ⟨k', op', ps', R2, t', v', y4, y6, rfl, hk0, hkl', hm', sm', hD', cs', hps', hop', hr', hs2, hR2, htm', due', _⟩ Q' qT qF
          have fin : ∀ (F : List (Str × List Tm) -> List Nat -> Prop) H5, Same H' H5 -> F op' R2 -> Mid F L row H1 D C k m' z [some (.str z), some (.ref D), some (.ref C), some (.int (k' : Int)), y4, some v', y6] H5 := fun F H5 s5 hF => ⟨k', op', ps', R2, t', v', y4, y6, rfl, hk0, hkl', hm', sm'.trans s5, s5 _ _ hD', cs'.same s5, hps', hop', hr', hs2, hR2, TmIs.same (sameT s5) t' htm', due', hF⟩
          refine ⟨_, rfl, (by show 0 <= sizeLine; decide), fun p hp => ?_⟩
          have s5 := same_new hp (.lst [])
          refine ⟨C, p, _, rfl, rfl, SqL.of (s5 _ _ cs'.c), SqL.of upd_same, _, rfl, iteNe (fun hne => ?_) (fun he => qF _ (fin _ _ s5 fun z => z.1 ?_))⟩
          · generalize upd H' p (.lst []) = H5 at s5 ⊢
            have hD5 := s5 _ _ hD'
            have cut2 : cutV (row.map tS) (some (k' : Int)) (some ((k' : Int) + 2)) = ((sp R2).take 2).map tS := by
              rw [cut_mid _ k' (k' + 2) (by omega) _ _ rfl (by omega), <- List.map_drop, show k' + 2 - k' = 2 by omega, <- List.map_take, hr']
            refine ⟨_, rfl, _, rfl, _, rfl, _, rfl, _, _, rfl, rfl, _, rfl, D, _, rfl, SqL.of hD5, fun b hb => ?_⟩
            dsimp only
            rw [cut2]
            refine ⟨(by show 2 <= sizeLine; decide), fun p2 hp2 => ?_⟩
            have s6 := same_new hb (.lst (((sp R2).take 2).map tS))
            have s7 := same_new hp2 (.lst [V.str ")", V.str ""])
            have s67 := s6.trans s7
            refine ⟨b, p2, _, _, dT ((sp R2).take 2), dT [[41], []], rfl, rfl, .inr ⟨SqL.of (s7 _ _ upd_same), SqL.of upd_same⟩, isdsT _, isdsD _ (by decide), depT _, _, rfl, ?_⟩
            show if eqDs _ _ = true then _ else _
            rw [eqT]
            generalize upd (upd H5 b (.lst (((sp R2).take 2).map tS))) p2 (.lst [V.str ")", V.str ""]) = H6 at s67 ⊢
            have s57 := s5.trans s67
            refine iteDd (fun g1 => ?_) (fun g1 => qF _ (fin _ _ s57 fun z => g1 z.2.1))
            have cs6 := cs'.same s57
            obtain ⟨pre, ⟨d, ts⟩, rfl⟩ := app_one (l := op') (fun z => hne (by have := cs'.len; rw [z] at this; rw [List.map_eq_nil_iff]; exact List.length_eq_zero_iff.mp this.symm))
            obtain ⟨qs, p3, vs, rfl, hp3, hvs, _⟩ := cs6.last
            have c6 := cs6.c
            rw [List.map_append] at c6
            refine ⟨_, rfl, _, rfl, C, _, _, .ref p3, rfl, rfl, SqL.of c6, atI_last' _ _, p3, _, rfl, .inl (SqL.of hp3), _, _, rfl, rfl, _, rfl, ?_⟩
            have lv := hvs.len
            by_cases g2 : (((V.str d :: vs).length : Nat) : Int) < 4
            · rw [decide_eq_true g2]
              refine qT _ (fin _ _ s57 ⟨by simp, g1, fun pre' d' ts' e => ?_⟩)
              obtain ⟨_, q⟩ := List.append_inj' e rfl
              cases q
              rw [List.length_cons] at g2
              omega
            · rw [decide_eq_false g2]
              refine qF _ (fin _ _ s57 fun z => g2 ?_)
              have := z.2.2 pre d ts rfl
              rw [List.length_cons]
              omega
          · have := cs'.len
            rw [List.map_eq_nil_iff.mp he] at this
            exact List.length_eq_zero_iff.mp this
        · rintro m' σ H' ⟨k', op', ps', R2, t', v', y4, y6, rfl, hk0, hkl', hm', sm', hD', cs', hps', hop', hr', hs2, hR2, htm', due', hne, h41, h3⟩
          obtain ⟨pre, ⟨d, ts⟩, rfl⟩ := app_one (l := op') hne
          have h3 := h3 pre d ts rfl
          obtain ⟨qs, p3, vs, rfl, hp3, hvs, hen⟩ := cs'.last
          obtain ⟨c, r, rfl, e1, hw⟩ := tks (n := 1) h41
          cases e1
          obtain ⟨r', er, _, hsr, _⟩ := tkw (n := 0) hw
          have er : r = r' := er
          subst er
          have w2 : wr [] r = [] :: sp r := wr_nil (u := []) (fun _ h => nomatch h) hsr
          have lv := hvs.len
          have c6 := cs'.c
          rw [List.map_append] at c6
          have nd := cs'.nd
          have hd3 : p3 ∉ qs := fun z => (List.nodup_append.mp nd).2.2 p3 z p3 (by simp) rfl
          have nC3 : p3 ≠ C := fun z => cs'.nc (by rw [<- z]; simp)
          refine ⟨_, rfl, .inl ⟨rfl, _, SqL.of c6⟩, C, _, .ref p3, rfl, rfl, c6, by simp, ?_⟩
          dsimp only
          rw [show (qs.map V.ref ++ [p3].map V.ref).dropLast = qs.map V.ref from List.dropLast_concat]
          have t5 : SameT H' (upd H' C (.lst (qs.map V.ref))) := sameT_lst c6
          have cs5 : Calls (upd H' C (.lst (qs.map V.ref))) H1 C pre qs := ⟨upd_same, cs'.cb, (List.nodup_append.mp nd).1, fun z => cs'.nc (by simp [z]), fun a ha => cs'.pb a (by simp [ha]), ents_upd c6 (fun z => cs'.nc (by simp [z])) hen⟩
          have hp5 : upd H' C (.lst (qs.map V.ref)) p3 = some (.lst (.str d :: vs)) := by rw [upd_ne nC3]; exact hp3
          have sm5 : Same H1 (upd H' C (.lst (qs.map V.ref))) := same_upd hC0 sm'
          have hD5 : upd H' C (.lst (qs.map V.ref)) D = some (.lst (row.map tS)) := by rw [upd_ne cD.symm]; exact hD'
          have hv5 := TmIs.same t5 t' htm'
          have hvs5 : L2R (TmIs (upd H' C (.lst (qs.map V.ref)))) ts vs := hvs.imp fun _ _ h => TmIs.same t5 _ h
          generalize upd H' C (.lst (qs.map V.ref)) = H5 at cs5 hp5 sm5 hD5 hv5 hvs5 ⊢
          refine ⟨_, rfl, p3, _, _, .str d, rfl, rfl, SqL.of hp5, atI_head _ _, _, rfl, _, rfl, p3, _, rfl, SqL.of hp5, fun b hb => ⟨_, rfl, (by show 1 <= sizeLine; decide), fun b2 hb2 => ?_⟩⟩
          have ec : cutV (V.str d :: vs) (some (1 : Int)) none = vs := cut_drop' _ 1
          rw [ec] at hb2 ⊢
          have s6 := same_new hb (.lst vs)
          have s7 := same_new hb2 (.lst [v'])
          refine ⟨b, b2, vs, [v'], rfl, rfl, s7 _ _ upd_same, upd_same, fits2 (by rw [List.length_singleton]; omega), fun b3 hb3 => ?_⟩
          have s8 := same_new hb3 (.lst (vs ++ [v']))
          refine ⟨b3, _, rfl, .inl ⟨SqL.of upd_same, fun b4 hb4 => ⟨(by show 3 <= sizeLine; decide), fun b5 hb5 => ?_⟩⟩⟩
          have s9 := same_new hb4 (.tup (vs ++ [v']))
          have s10 := same_new hb5 (.tup [.str "call", .str d, .ref b4])
          have sA := s6.trans (s7.trans (s8.trans (s9.trans s10)))
          have h4A := s10 _ _ (upd_same (a := b4) (o := .tup (vs ++ [v'])) (H := upd (upd (upd H5 b (.lst vs)) b2 (.lst [v'])) b3 (.lst (vs ++ [v']))))
          have h5A := upd_same (a := b5) (o := .tup [.str "call", .str d, .ref b4]) (H := upd (upd (upd (upd H5 b (.lst vs)) b2 (.lst [v'])) b3 (.lst (vs ++ [v']))) b4 (.tup (vs ++ [v'])))
          generalize upd (upd (upd (upd (upd H5 b (.lst vs)) b2 (.lst [v'])) b3 (.lst (vs ++ [v']))) b4 (.tup (vs ++ [v']))) b5 (.tup [.str "call", .str d, .ref b4]) = H6 at sA h4A h5A ⊢
          refine ⟨_, rfl, _, _, rfl, rfl, pre.length, by rw [hm', List.length_append, List.length_singleton]; omega, k' + 2, pre, qs, r, .call d (ts ++ [t']), .ref b5, _, _, rfl, by omega, ?_, rfl, sm5.trans sA, sA _ _ hD5, cs5.same sA, ?_, fun e he => ?_, ?_, hsr, ?_, ?_, due'.close h3, trivial⟩
          · have := congrArg List.length hr'
            rw [List.length_drop, sp, w2, List.length_cons, List.length_cons] at this
            omega
          · rw [List.length_append, List.length_singleton] at hps'; omega
          · have := hop' e (by simp [he]); omega
          · rw [<- List.drop_drop, hr', sp, w2]; rfl
          · rw [List.length_cons] at hR2; omega
          · unfold TmIs
            refine ⟨b5, b4, vs ++ [v'], rfl, h5A, h4A, by rw [List.length_append, List.length_singleton]; omega, tms_of ?_⟩
            exact (hvs5.imp fun _ _ h => TmIs.same (sameT sA) _ h).snoc (TmIs.same (sameT sA) t' hv5)
        · rintro m' σ H' ⟨k', op', ps', R2, t', v', y4, y6, rfl, hk0, hkl', hm', sm', hD', cs', hps', hop', hr', hs2, hR2, htm', due', hno2⟩
          try unfold tNext
          try dsimp only
          have lr' := congrArg List.length hr'
          rw [List.length_drop] at lr'
          have opn : ps'.map V.ref = [] ↔ op' = [] := by
            have := cs'.len
            constructor
            · intro z
              rw [List.map_eq_nil_iff.mp z] at this
              exact List.length_eq_zero_iff.mp this
            · intro z
              rw [z] at this
              rw [List.map_eq_nil_iff]
              exact List.length_eq_zero_iff.mp this.symm
          refine seq_ifS_by (fun H2 => Same H' H2 /\ (R2 = [] /\ op' = [])) (fun H2 => Same H' H2 /\ ¬ (R2 = [] /\ op' = [])) (fun Q' qT qF => ?_) (fun H2 ⟨s5, e1, e2⟩ => ?_) (fun H2 ⟨s5, hn1⟩ => ?_)
          · refine ⟨_, rfl, _, rfl, D, _, rfl, .inl (SqL.of hD'), rfl, _, rfl, iteDd (fun h => ⟨_, rfl, (by show 0 <= sizeLine; decide), fun p hp => ?_⟩) (fun h => qF _ ⟨Same.refl _, fun z => h ?_⟩)⟩
            · have s5 := same_new hp (.lst [])
              refine ⟨C, p, _, rfl, rfl, SqL.of (s5 _ _ cs'.c), SqL.of upd_same, _, rfl, ?_⟩
              have hk : k' = row.length := by
                have := V.int.inj h
                rw [List.length_map] at this
                omega
              have hR0 : R2 = [] := sp_nil (List.length_eq_zero_iff.mp (by omega))
              by_cases g : ps'.map V.ref = []
              · rw [decide_eq_true g]; exact qT _ ⟨s5, hR0, opn.mp g⟩
              · rw [decide_eq_false g]; exact qF _ ⟨s5, fun z => g (opn.mpr z.2)⟩
            · have e0 : (sp R2).length = 0 := by rw [z.1]; rfl
              rw [List.length_map]
              congr 1
              omega
          · subst e1 e2
            obtain ⟨eL, wt⟩ := due'.told
            exact ⟨_, rfl, q t' v' H2 eL wt (sm'.trans s5) (TmIs.same (sameT s5) t' htm')⟩
          try unfold tNext
          try dsimp only
          have hD2 := s5 _ _ hD'
          have cs2 := cs'.same s5
          refine seq_ifS_by (fun H3 => Same H2 H3 /\ (op' = [] \/ ¬ ∃ r, R2 = 44 :: r)) (fun H3 => Same H2 H3 /\ ∃ pre d ts r, op' = pre ++ [(d, ts)] /\ R2 = 44 :: r) (fun Q' qT qF => ?_) (fun H3 ⟨s6, hbad⟩ => ?_) (fun H3 ⟨s6, pre, d, ts, r, e1, e2⟩ => ?_)
          · refine ⟨_, rfl, (by show 0 <= sizeLine; decide), fun p hp => ?_⟩
            have s6 := same_new hp (.lst [])
            refine ⟨C, p, _, rfl, rfl, SqL.of (s6 _ _ cs2.c), SqL.of upd_same, _, rfl, iteDd (fun g => qT _ ⟨s6, .inl (opn.mp g)⟩) (fun g => ?_)⟩
            generalize upd H2 p (.lst []) = H3 at s6 ⊢
            have hD3 := s6 _ _ hD2
            have cut1 : cutV (row.map tS) (some (k' : Int)) (some ((k' : Int) + 1)) = ((sp R2).take 1).map tS := by
              rw [cut_mid _ k' (k' + 1) (by omega) _ _ rfl (by omega), <- List.map_drop, show k' + 1 - k' = 1 by omega, <- List.map_take, hr']
            refine ⟨_, rfl, _, rfl, _, rfl, _, rfl, _, _, rfl, rfl, _, rfl, D, _, rfl, SqL.of hD3, fun b hb => ?_⟩
            dsimp only
            rw [cut1]
            refine ⟨(by show 1 <= sizeLine; decide), fun p2 hp2 => ?_⟩
            have s7 := same_new hb (.lst (((sp R2).take 1).map tS))
            have s8 := same_new hp2 (.lst [V.str ","])
            have s78 := s7.trans s8
            refine ⟨b, p2, _, _, dT ((sp R2).take 1), dT [[44]], rfl, rfl, .inr ⟨SqL.of (s8 _ _ upd_same), SqL.of upd_same⟩, isdsT _, isdsD _ (by decide), depT _, _, rfl, ?_⟩
            show Q' (!eqDs _ _) _
            rw [eqT]
            generalize upd (upd H3 b (.lst (((sp R2).take 1).map tS))) p2 (.lst [V.str ","]) = H6 at s78 ⊢
            by_cases g1 : (sp R2).take 1 = [[44]]
            · rw [decide_eq_true g1]
              obtain ⟨c, r, e, h1, _⟩ := tks (n := 0) g1
              cases h1
              obtain ⟨pre, ⟨d, ts⟩, e3⟩ := app_one (l := op') (fun z => g (opn.mpr z))
              exact qF _ ⟨s6.trans s78, pre, d, ts, r, e3, e⟩
            · rw [decide_eq_false g1]
              refine qT _ ⟨s6.trans s78, .inr ?_⟩
              rintro ⟨r, e⟩
              exact g1 (by rw [e]; rfl)
          · exact qn (due'.no hn1 hbad hno2) _ (sm'.trans (s5.trans s6))
          subst e1 e2
          have hD3 := s6 _ _ hD2
          have cs3 := cs2.same s6
          obtain ⟨qs, p3, vs, rfl, hp3, hvs, hen⟩ := cs3.last
          have lv := hvs.len
          have lts := hop' (d, ts) (by simp)
          have lts : ts.length <= k' := lts
          have c6 := cs3.c
          rw [List.map_append] at c6
          have nd := cs3.nd
          have hd3 : p3 ∉ qs := fun z => (List.nodup_append.mp nd).2.2 p3 z p3 (by simp) rfl
          have nC3 : p3 ≠ C := fun z => cs3.nc (by rw [<- z]; simp)
          have nD3 : p3 ≠ D := fun z => by
            have b := cs3.pb p3 (by simp)
            rw [z, hD] at b
            cases b
          refine ⟨_, rfl, _, rfl, C, _, _, .ref p3, rfl, rfl, SqL.of c6, atI_last' _ _, .inl ⟨rfl, _, SqL.of hp3⟩, _, rfl, p3, _, _, rfl, rfl, hp3, fitsL (by rw [List.length_cons]; omega), ?_⟩
          have t7 : SameT H3 (upd H3 p3 (.lst (V.str d :: vs ++ [v']))) := sameT_lst hp3
          have b3 := cs3.pb p3 (by simp)
          have hv3 := TmIs.same (sameT (s5.trans s6)) t' htm'
          have w2 : row.drop (k' + 1) = wr [] r := by rw [<- List.drop_drop, hr']; rfl
          have lw : 0 < (wr [] r).length := by
            obtain ⟨u, R3, e, hu, hR3⟩ := span r
            rw [e, wr_nil hu hR3]
            simp
          have lw2 := congrArg List.length w2
          rw [List.length_drop] at lw2
          refine ⟨_, rfl, _, _, rfl, rfl, row.length - (k' + 1), by omega, k' + 1, pre ++ [(d, ts ++ [t'])], qs ++ [p3], r, _, _, _, rfl, by omega, same_upd b3 (sm'.trans (s5.trans s6)), by rw [upd_ne nD3.symm]; exact hD3, ⟨?_, cs3.cb, nd, cs3.nc, cs3.pb, ?_⟩, by omega, fun e he => ?_, w2, ?_, due'.comma⟩
          · rw [upd_ne nC3.symm, List.map_append]
            exact c6
          · rw [List.map_append]
            refine (ents_upd hp3 hd3 hen).snoc ⟨p3, vs ++ [v'], rfl, upd_same, ?_⟩
            exact (hvs.imp fun _ _ h => TmIs.same t7 _ h).snoc (TmIs.same t7 t' hv3)
          · rcases List.mem_append.mp he with he | he
            · have := hop' e (by simp [he]); omega
            · rw [List.mem_singleton.mp he]
              show (ts ++ [t']).length <= _
              rw [List.length_append, List.length_singleton]
              omega
          · rw [List.length_cons] at hR2; omega
      · refine ⟨_, rfl, _, rfl, iteYd rfl ?_⟩
        exact qn (due.none hu hR1 hno' ho) _ (sm.trans (s3.trans s4))
end
end K07
namespace L2
open PySem PySem.Spec PyProof.Rows
def tTryA (K : PySem.W.Frag) (Dc : Addr) (i j : Nat) (sp : Sp) (t : TA) (ts : TS) : TS := fun D σ H => t σ H fun vs H1 => sp vs H1 (fun v H2 => D.nx (σ.set j (some v)) H2) fun cls _ H2 => ∃ C, cls = .ref C /\ ExcC K C /\ PySem.W.mroIn K C (.ref Dc) = some true /\
  ∀ a, H2 a = none -> ts { nx := fun σ' H' => D.nx (σ'.set i none) H', rt := fun _ _ => False, bk := fun _ _ => False, ct := fun _ _ => False } (σ.set i (some (.ref a))) (upd H2 a (excO a C))
section
variable {X : Cx} {k : Nat} {f Dc : Addr} {fd : FuncData} {ps : List Str} {sp : Sp} {x dn n y : Str} {i j : Nat} {p cpos epos np hpos pos yp : Pos} {e : Expr} {es : List Expr} {t : TA} {ts : TS} {b0 : Stmt} {suite : List Stmt}
theorem ps_tryA (F : FnOk X.prog X.w X.K X.mg X.base (CXe X.prog X.w) k f fd ps sp) (hr : Room k X.A) (hg : Gl X x) (hm : X.mg x = some (.ref f)) (hk : PySem.W.keepIn X.K (.ref f) = true) (hb : Binds X.K fd ps [])
    (ha : PA X.nox (e :: es) t) (hgD : Gl X dn) (hmD : X.mg dn = some (.ref Dc)) (hD : ExcC X.K Dc) (hN : X.N.Nodup) (hi : X.N[i]? = some n) (hn : X.env.scope.names.lookup n = some .local) (hstk : X.stack = X.env :: X.outer) (hfr : X.env.frame = some X.env.locals) (hex : X.ex = [])
    (hj : X.N[j]? = some y) (hy : X.env.scope.names.lookup y = some .local) (hs : ∀ a, PSs (X.hand a) (b0 :: suite) ts)
    (hdb : (x == ("__debug__" : Str)) = false := by decide) (hdd : (dn == ("__debug__" : Str)) = false := by decide) (he : starEach (e :: es) X.env = (false, eval e X.env) :: starEach es X.env := by rfl) (hpl : (backTo cpos (starEach es X.env)).any (·.1) = false := by rfl)
    (hsw : swapsWith (.Call (.Name x p) (e :: es) [] cpos) (some (.Name y yp)) epos.line X.env = pure false := by rfl) :
    PS X (.Try [.Assign [.Name y yp] (.Call (.Name x p) (e :: es) [] cpos) epos] [.ExceptHandler (some (.Name dn np)) (some n) (b0 :: suite) hpos] [] [] pos) (tTryA X.K Dc i j sp t ts) := by
  intro pins s σ H D I h
  refine wpAny_Try_except (wpAny_execs_cons (wpAny_Assign_Name (wpAny_Call_Name_kw (ld_glob I hg hm ?_ hdb)) hsw))
  refine PySem.W.callWith_K (h₀ := X.base) I.ok.mod.kin hk (wpAny_mono (ha cpos pins s σ H _ (I.wish _) h) (fun us s1 ⟨vs, H1, I1n, r, q⟩ => ⟨I1n.kIn, ?_⟩) fun _ _ z => z.elim) he hpl
  have I1 : Inv X pins σ H1 s1 := I1n.unwish
  have hl : (us ++ []).length = ps.length := by rw [List.append_nil, <- r.length]; exact F.len _ _ _ _ q
  have hbb := hb s1 us I1.kIn hl
  rw [List.append_nil] at hbb
  refine wpAny_call (codeAny_mono (F.run X.A X.stack s1 H1 ⟨us, []⟩ us vs _ _ hr I1.env0 hbb r q) fun res s' hq => ?_)
  cases res with
  | ok fl =>
    cases fl with
    | ret u =>
      obtain ⟨v, H2, I2, r2, q2⟩ := I1.after hq
      exact store_ok I2 hN hj (.inl hy) r2 (fun s2 I3 => wpAny_execs_nil (wpAny_execs_nil ⟨_, H2, I3, q2⟩)) (.inr hy)
    | next => exact False.elim hq
    | brk => exact False.elim hq
    | cont => exact False.elim hq
  | error ev =>
    obtain ⟨a, cls, H2, rfl, x, C, rfl, hC, hmro, q2⟩ := hq
    obtain ⟨B, a0, fly, big⟩ := x.fly
    have hfrm : X.A.frames = some (X.env :: X.outer) := by rw [<- hstk]; exact I.ok.frames
    rw [hstk] at fly
    have keep : ∀ h6 : Heap, B.StaysIn h6 -> s'.heap.UpToSlots h6 -> ∀ tk : Nat, Inv X pins σ H2 { s' with heap := h6, toks := tk } := fun h6 st up tk => by
      have slots : ∀ b o, s'.heap.get? b = some o -> b ∈ frs X.stack -> ∃ sl, h6.get? b = some { o with slots := sl } := fun b o e hb => by
        rw [hstk] at hb
        obtain ⟨_, o', e', nf⟩ := fly.2.2.1.mem hb
        rw [e] at e'
        cases e'
        exact up b o e nf
      have hfree' : ∀ b ∈ frs X.stack, H2 b = none := fun b hb => by
        obtain ⟨_, o, e, _⟩ := I1.stack.mem hb
        exact x.un.free b o e (I1.stkFree b hb) (by simp)
      refine I1.call' (ch := []) x.os (x.un.fly (fun b hb => .inl hb) st (fun b o e n hb => big b o hb n e) slots fun b hb => hb) (x.hok.fly hfree' st (fun b o e n hb => big b o (.inl hb) n e)) x.bare (fun b z => absurd z (by simp))
    refine wpAny_looks_onW hfrm hfr fly fun h4 held4 sm4 => wpAny_landsW held4 fun h5 fl5 sm5 => ?_
    have I5 := keep h5 fl5.1 (sm4.trans sm5) s'.toks
    obtain ⟨oe, hoe, hoc⟩ := fl5.there
    refine wpAny_handleBy_cons (codeAny_handlers_test (ld_glob (I5.hand a) hgD hmD (excMatches_own (K := X.K) I5.kIn hC hD hoe hoc hmro ?_) hdd)) (by intro z; cases z)
    refine codeAny_handlers_suite_as (lands_againW fl5 fun h6 fl6 sm6 => ?_)
    have I6 := keep h6 fl6.1 ((sm4.trans sm5).trans sm6) s'.toks
    obtain ⟨oe6, hoe6, hoc6⟩ := fl6.there
    have hnew1 : s1.heap.get? a = none := x.new
    have I7 : Inv X pins σ (upd H2 a (excO a C)) { s' with heap := h6 } := by
      refine I6.track x.free (fun u z => ?_) ⟨⟨oe6, hoe6, hoc6⟩, ⟨oe6, hoe6⟩, fun h1 h2 ⟨o, e1, e2⟩ st => ⟨o, st o e1, e2⟩⟩ (fun z => ?_) (fun y c e z => ?_) (fun p hp z => ?_)
      · obtain ⟨o', e1⟩ := I1.base.there a u z (by rw [hex]; simp)
        rw [hnew1] at e1
        cases e1
      · obtain ⟨m, hns, _⟩ := I1.loc
        obtain ⟨oL, _, _, hoL, _⟩ := hns
        rw [<- z, hnew1] at hoL
        cases hoL
      · obtain ⟨v, oc, hoc', _⟩ := I1.cell y c e
        rw [z, hnew1] at hoc'
        cases hoc'
      · obtain ⟨e1, _⟩ := I1.pin p hp
        rw [z, hnew1] at e1
        cases e1
    refine store_ok (X := X.hand a) (v := .ref a) (I7.hand a) hN hi (.inl hn) rfl (fun s7 I8 => ?_) (.inr hn)
    refine wpAny_mono (hs a pins s7 _ _ _ I8 (q2 a x.free)) (fun fw s8 hfw => ?_) fun _ _ z => z.elim
    cases fw with
    | next =>
      obtain ⟨σ', H9, I9, q9⟩ := hfw
      have I9' := I9.unhand I.ok
      obtain ⟨m, hns, hloc⟩ := I9'.loc
      refine wpAny_nameGoes_keeps hn hns (by rw [I.ok.kind]; rfl) fun h10 v hn10 hs10 => ?_
      exact ⟨σ'.set i none, H9, I9'.gone hN hi hns hloc hn10 hs10, q9⟩
    | ret u =>
      obtain ⟨_, _, _, _, _, z⟩ := hfw
      exact z.elim
    | brk =>
      obtain ⟨_, _, _, z⟩ := hfw
      exact z.elim
    | cont =>
      obtain ⟨_, _, _, z⟩ := hfw
      exact z.elim
theorem qs_tryA (F : FnOk X.prog X.w X.K X.mg X.base (CXe X.prog X.w) k f fd ps sp) (hr : Room k X.A) (hg : Gl X x) (hm : X.mg x = some (.ref f)) (hk : PySem.W.keepIn X.K (.ref f) = true) (hb : Binds X.K fd ps [])
    (ha : QA X.nox (e :: es) t) (hgD : Gl X dn) (hmD : X.mg dn = some (.ref Dc)) (hD : ExcC X.K Dc) (hN : X.N.Nodup) (hi : X.N[i]? = some n) (hn : X.env.scope.names.lookup n = some .local) (hstk : X.stack = X.env :: X.outer) (hfr : X.env.frame = some X.env.locals) (hex : X.ex = [])
    (hj : X.N[j]? = some y) (hy : X.env.scope.names.lookup y = some .local) (hs : ∀ a, QSs (X.hand a) (b0 :: suite) ts)
    (hdb : (x == ("__debug__" : Str)) = false := by decide) (hdd : (dn == ("__debug__" : Str)) = false := by decide) (he : starEach (e :: es) X.env = (false, eval e X.env) :: starEach es X.env := by rfl) (hpl : (backTo cpos (starEach es X.env)).any (·.1) = false := by rfl)
    (hsw : swapsWith (.Call (.Name x p) (e :: es) [] cpos) (some (.Name y yp)) epos.line X.env = pure false := by rfl) :
    QS X (.Try [.Assign [.Name y yp] (.Call (.Name x p) (e :: es) [] cpos) epos] [.ExceptHandler (some (.Name dn np)) (some n) (b0 :: suite) hpos] [] [] pos) (tTryA X.K Dc i j sp t ts) :=
  ⟨ps_tryA F hr hg hm hk hb ha.h hgD hmD hD hN hi hn hstk hfr hex hj hy (fun a => (hs a).h) hdb hdd he hpl hsw⟩
end
end L2
namespace K07
open PySem L2
open TM hiding Endd Ms Run Step pcs run_all
inductive Al (H : Hp) : Nat -> V -> V -> Prop
  | str {n : Nat} (z : Str) : Al H n (.str z) (.str z)
  | int {n : Nat} (i : Int) : Al H n (.int i) (.int i)
  | tup {n : Nat} {a b : Addr} {xs ys : List V} : H a = some (.tup xs) -> H b = some (.tup ys) -> ys.length = xs.length -> xs.length <= 1000 -> (∀ (i : Nat) (x y : V), xs[i]? = some x -> ys[i]? = some y -> Al H n x y) -> Al H (n + 1) (.ref a) (.ref b)
theorem Al.same {H H' : Hp} (s : Same H H') {n : Nat} {v u : V} (h : Al H n v u) : Al H' n v u := by
  induction h with
  | str z => exact .str z
  | int i => exact .int i
  | tup ha hb e hl _ ih => exact .tup (s _ _ ha) (s _ _ hb) e hl ih
theorem Al.mono {H : Hp} {n : Nat} {v u : V} (h : Al H n v u) : ∀ {m : Nat}, n <= m -> Al H m v u := by
  induction h with
  | str z => exact fun _ => .str z
  | int i => exact fun _ => .int i
  | tup ha hb e hl _ ih =>
    intro m hm
    obtain ⟨k, rfl⟩ : ∃ k, m = k + 1 := ⟨m - 1, by omega⟩
    exact .tup ha hb e hl fun i x y hx hy => ih i x y hx hy (by omega)
theorem al_one {H : Hp} {n : Nat} {a b : Addr} {x1 x2 : V} (ha : H a = some (.tup [x1])) (hb : H b = some (.tup [x2])) (h1 : Al H n x1 x2) : Al H (n + 1) (.ref a) (.ref b) :=
  .tup ha hb rfl (by show 1 <= 1000; decide) fun i x y hx hy => by
    match i with
    | 0 => cases hx; cases hy; exact h1
    | i + 1 => simp at hx
theorem al_two {H : Hp} {n : Nat} {a b : Addr} {x1 x2 y1 y2 : V} (ha : H a = some (.tup [x1, y1])) (hb : H b = some (.tup [x2, y2])) (h1 : Al H n x1 x2) (h2 : Al H n y1 y2) : Al H (n + 1) (.ref a) (.ref b) :=
  .tup ha hb rfl (by show 2 <= 1000; decide) fun i x y hx hy => by
    match i with
    | 0 => cases hx; cases hy; exact h1
    | 1 => cases hx; cases hy; exact h2
    | i + 2 => simp at hx
theorem al_three {H : Hp} {n : Nat} {a b : Addr} {x1 x2 y1 y2 z1 z2 : V} (ha : H a = some (.tup [x1, y1, z1])) (hb : H b = some (.tup [x2, y2, z2])) (h1 : Al H n x1 x2) (h2 : Al H n y1 y2) (h3 : Al H n z1 z2) : Al H (n + 1) (.ref a) (.ref b) :=
  .tup ha hb rfl (by show 3 <= 1000; decide) fun i x y hx hy => by
    match i with
    | 0 => cases hx; cases hy; exact h1
    | 1 => cases hx; cases hy; exact h2
    | 2 => cases hx; cases hy; exact h3
    | i + 3 => simp at hx
mutual
theorem al_T {H : Hp} : ∀ (t : Tm) {v u : V}, TmIs H t v -> TmIs H t u -> Al H (2 * depth t) v u
  | .num n, v, u, h, g => by
    unfold TmIs at h g; obtain ⟨a, rfl, e⟩ := h; obtain ⟨b, rfl, e'⟩ := g
    rw [depth]
    exact al_two e e' (.str _) (.int _)
  | .text z, v, u, h, g => by
    unfold TmIs at h g; obtain ⟨a, rfl, e⟩ := h; obtain ⟨b, rfl, e'⟩ := g
    rw [depth]
    exact al_two e e' (.str _) (.str _)
  | .row, v, u, h, g => by
    unfold TmIs at h g; obtain ⟨a, rfl, e⟩ := h; obtain ⟨b, rfl, e'⟩ := g
    rw [depth]
    exact al_one e e' (.str _)
  | .mark, v, u, h, g => by
    unfold TmIs at h g; obtain ⟨a, rfl, e⟩ := h; obtain ⟨b, rfl, e'⟩ := g
    rw [depth]
    exact al_one e e' (.str _)
  | .val k z, v, u, h, g => by
    unfold TmIs at h g; obtain ⟨a, rfl, e⟩ := h; obtain ⟨b, rfl, e'⟩ := g
    rw [depth]
    exact al_three e e' (.str _) (.int _) (.str _)
  | .call w ts, v, u, h, g => by
    unfold TmIs at h g
    obtain ⟨a, b, vs, rfl, e, eb, hv, hts⟩ := h
    obtain ⟨a', b', vs', rfl, e', eb', hv', hts'⟩ := g
    rw [depth]
    have q : 2 * (1 + depths ts) = (2 * depths ts + 1) + 1 := by omega
    rw [q]
    have l1 := hts.len
    have l2 := hts'.len
    exact al_three e e' (.str _) (.str _) (.tup eb eb' (by omega) hv fun i x y hx hy => al_Ts ts hts hts' i hx hy)
theorem al_Ts {H : Hp} : ∀ (ts : List Tm) {vs us : List V}, TmsIs H ts vs -> TmsIs H ts us -> ∀ (i : Nat) {x y : V}, vs[i]? = some x -> us[i]? = some y -> Al H (2 * depths ts) x y
  | [], vs, us, h, g, i, x, y, hx, hy => by unfold TmsIs at h; subst h; simp at hx
  | t :: ts, vs, us, h, g, i, x, y, hx, hy => by
    unfold TmsIs at h g
    obtain ⟨v, r, rfl, h1, h2⟩ := h
    obtain ⟨v', r', rfl, g1, g2⟩ := g
    have e : 2 * depths (t :: ts) = max (2 * depth t) (2 * depths ts) := by rw [depths]; omega
    rw [e]
    cases i with
    | zero =>
      simp at hx hy
      subst hx hy
      exact (al_T t h1 g1).mono (by omega)
    | succ i => exact (al_Ts ts h2 g2 i (by simpa using hx) (by simpa using hy)).mono (by omega)
end
def spAlike (n : Nat) : Sp := fun vs H Q _ => ∃ v1 v2, vs = [v1, v2] /\ Al H n v1 v2 /\ ∀ H', Same H H' -> Q (.bl true) H'
theorem k_tb' {K : PySem.W.Frag} : PySem.W.kitOne K (.type "tuple") (.type "int") = some false := by with_unfolding_all rfl
section
variable {P : Program} {w : World} {K : PySem.W.Frag} {mg : Str -> Option Value} {base : Heap} {T : Adr}
theorem ok_alike (X : Tx K w mg T) : ∀ n : Nat, FnOk P w K mg base CX0 (n + 1) T.qalike T.d_qalike ["_law_found", "_law_due_here"] (spAlike n) := by
  intro n
  induction n with
  | zero =>
    have G_qalike : FnOk P w K mg base CX0 0 T.qalike T.d_qalike ["_law_found", "_law_due_here"] (fun _ _ _ _ => False) := ⟨fun _ _ _ _ h => h.elim, fun _ _ _ _ _ _ _ _ _ _ _ _ _ h => h.elim⟩
    refine X.F_qalike.okQ sc_qalike (fun vs H Q E h => ?_) (fun cdv A outer s H vs Q E hr h => ?_)
    · obtain ⟨_, _, rfl, _⟩ := h
      rfl
    obtain ⟨v1, v2, rfl, al, q⟩ := h
    refine ⟨_, (qss_cons (qs_if (qt_val (qe_callB call_isinst rfl X.z_isinstance PyProof.Rows.boot_isinstance (qaN (qv 1) (qaN (qe_bltn rfl X.z_str PyProof.Rows.boot_str rfl (v := .ty "str")) qa_nil)))) (qss_one (qs_ret (qe_and (qe_callB call_isinst rfl X.z_isinstance PyProof.Rows.boot_isinstance (qaN (qv 0) (qaN (qe_bltn rfl X.z_str PyProof.Rows.boot_str rfl (v := .ty "str")) qa_nil))) (qe_one (qe_cmpR op_eq (qv 0) (qv 1) (nomark _)))))) qss_nil) (qss_cons (qs_if (qt_val (qe_callB call_isinst rfl X.z_isinstance PyProof.Rows.boot_isinstance (qaN (qv 1) (qaN (qe_bltn rfl X.z_int PyProof.Rows.boot_int rfl (v := .ty "int")) qa_nil)))) (qss_one (qs_ret (qe_and (qe_callB call_isinst rfl X.z_isinstance PyProof.Rows.boot_isinstance (qaN (qv 0) (qaN (qe_bltn rfl X.z_int PyProof.Rows.boot_int rfl (v := .ty "int")) qa_nil))) (qe_and (qe_not (qe_callB call_isinst rfl X.z_isinstance PyProof.Rows.boot_isinstance (qaN (qv 0) (qaN (qe_bltn rfl X.z_bool PyProof.Rows.boot_bool rfl (v := .ty "bool")) qa_nil)))) (qe_one (qe_cmpR op_eq (qv 0) (qv 1) (nomark _))))))) qss_nil) (qss_cons (qs_if (qw_pt (qw_or (qt_not (qt_val (qe_callB call_isinst rfl X.z_isinstance PyProof.Rows.boot_isinstance (qaN (qv 0) (qaN (qe_bltn rfl X.z_tuple PyProof.Rows.boot_tuple rfl (v := .ty "tuple")) qa_nil))))) (qw_or1 (qt_cmpR op_ne (qe_callB (call_len_seq.or call_len_str) rfl X.z_len PySem.boot_len (qaN (qv 0) qa_nil)) (qe_callB (call_len_seq.or call_len_str) rfl X.z_len PySem.boot_len (qaN (qv 1) qa_nil)) (nomark _))))) qss_never qss_nil) (qss_cons (qs_for PassesOwn.never rfl (qi_zipT rfl X.z_zip (qaN (qv 0) (qaN (qv 1) qa_nil))) (qg_tup rfl (qgs_cons (qg_name (i := 2) sc_qalike.nd rfl (Or.inl rfl)) (qgs_cons (qg_name (i := 3) sc_qalike.nd rfl (Or.inl rfl)) qgs_nil))) (qss_one (qs_if (qt_not (qt_val (qe_call G_qalike hr rfl X.m_qalike X.F_qalike.kp X.b_qalike .nil pass0 (qaN (qv 2) (qaN (qv 3) qa_nil))))) qss_never qss_nil))) (qss_one (qs_ret qe_bl)))))), ?_⟩
    have qs := q H (Same.refl H)
    cases al with
    | str z => exact ⟨_, rfl, _, "str", _, _, rfl, .str z, k_ss, _, rfl, iteT ⟨_, rfl, _, "str", _, _, rfl, .str z, k_ss, _, rfl, iteT ⟨_, rfl, _, rfl, rfl, by rw [decide_eq_true rfl]; exact qs⟩⟩⟩
    | int i => exact ⟨_, rfl, _, "str", _, _, rfl, .int i, k_is', _, rfl, iteF ⟨_, rfl, _, "int", _, _, rfl, .int i, k_ii, _, rfl, iteT ⟨_, rfl, _, "int", _, _, rfl, .int i, k_ii, _, rfl, iteT ⟨_, rfl, _, "bool", _, _, rfl, .int i, k_ib, _, rfl, _, rfl, iteT ⟨_, rfl, _, rfl, rfl, by rw [decide_eq_true rfl]; exact qs⟩⟩⟩⟩⟩
  | succ n ih =>
    have G_qalike := ih
    refine X.F_qalike.okQ sc_qalike (fun vs H Q E h => ?_) (fun cdv A outer s H vs Q E hr h => ?_)
    · obtain ⟨_, _, rfl, _⟩ := h
      rfl
    obtain ⟨v1, v2, rfl, al, q⟩ := h
    refine ⟨_, (qss_cons (qs_if (qt_val (qe_callB call_isinst rfl X.z_isinstance PyProof.Rows.boot_isinstance (qaN (qv 1) (qaN (qe_bltn rfl X.z_str PyProof.Rows.boot_str rfl (v := .ty "str")) qa_nil)))) (qss_one (qs_ret (qe_and (qe_callB call_isinst rfl X.z_isinstance PyProof.Rows.boot_isinstance (qaN (qv 0) (qaN (qe_bltn rfl X.z_str PyProof.Rows.boot_str rfl (v := .ty "str")) qa_nil))) (qe_one (qe_cmpR op_eq (qv 0) (qv 1) (nomark _)))))) qss_nil) (qss_cons (qs_if (qt_val (qe_callB call_isinst rfl X.z_isinstance PyProof.Rows.boot_isinstance (qaN (qv 1) (qaN (qe_bltn rfl X.z_int PyProof.Rows.boot_int rfl (v := .ty "int")) qa_nil)))) (qss_one (qs_ret (qe_and (qe_callB call_isinst rfl X.z_isinstance PyProof.Rows.boot_isinstance (qaN (qv 0) (qaN (qe_bltn rfl X.z_int PyProof.Rows.boot_int rfl (v := .ty "int")) qa_nil))) (qe_and (qe_not (qe_callB call_isinst rfl X.z_isinstance PyProof.Rows.boot_isinstance (qaN (qv 0) (qaN (qe_bltn rfl X.z_bool PyProof.Rows.boot_bool rfl (v := .ty "bool")) qa_nil)))) (qe_one (qe_cmpR op_eq (qv 0) (qv 1) (nomark _))))))) qss_nil) (qss_cons (qs_if (qw_pt (qw_or (qt_not (qt_val (qe_callB call_isinst rfl X.z_isinstance PyProof.Rows.boot_isinstance (qaN (qv 0) (qaN (qe_bltn rfl X.z_tuple PyProof.Rows.boot_tuple rfl (v := .ty "tuple")) qa_nil))))) (qw_or1 (qt_cmpR op_ne (qe_callB (call_len_seq.or call_len_str) rfl X.z_len PySem.boot_len (qaN (qv 0) qa_nil)) (qe_callB (call_len_seq.or call_len_str) rfl X.z_len PySem.boot_len (qaN (qv 1) qa_nil)) (nomark _))))) qss_never qss_nil) (qss_cons (qs_for PassesOwn.never rfl (qi_zipT rfl X.z_zip (qaN (qv 0) (qaN (qv 1) qa_nil))) (qg_tup rfl (qgs_cons (qg_name (i := 2) sc_qalike.nd rfl (Or.inl rfl)) (qgs_cons (qg_name (i := 3) sc_qalike.nd rfl (Or.inl rfl)) qgs_nil))) (qss_one (qs_if (qt_not (qt_val (qe_call G_qalike hr rfl X.m_qalike X.F_qalike.kp X.b_qalike .nil pass0 (qaN (qv 2) (qaN (qv 3) qa_nil))))) qss_never qss_nil))) (qss_one (qs_ret qe_bl)))))), ?_⟩
    have qs := q H (Same.refl H)
    cases al with
    | str z => exact ⟨_, rfl, _, "str", _, _, rfl, .str z, k_ss, _, rfl, iteT ⟨_, rfl, _, "str", _, _, rfl, .str z, k_ss, _, rfl, iteT ⟨_, rfl, _, rfl, rfl, by rw [decide_eq_true rfl]; exact qs⟩⟩⟩
    | int i => exact ⟨_, rfl, _, "str", _, _, rfl, .int i, k_is', _, rfl, iteF ⟨_, rfl, _, "int", _, _, rfl, .int i, k_ii, _, rfl, iteT ⟨_, rfl, _, "int", _, _, rfl, .int i, k_ii, _, rfl, iteT ⟨_, rfl, _, "bool", _, _, rfl, .int i, k_ib, _, rfl, _, rfl, iteT ⟨_, rfl, _, rfl, rfl, by rw [decide_eq_true rfl]; exact qs⟩⟩⟩⟩⟩
    | @tup _ a b xs ys ha hb e hl hi =>
      refine ⟨_, rfl, _, "str", _, _, rfl, .tup hb, k_ts, _, rfl, iteF ⟨_, rfl, _, "int", _, _, rfl, .tup hb, k_tb', _, rfl, iteF ⟨_, rfl, _, "tuple", _, _, rfl, .tup ha, k_tt, _, rfl, iteF ?_⟩⟩⟩
      refine ⟨_, rfl, .inl ⟨a, xs, rfl, .inr (SqT.of ha), _, rfl, .inl ⟨b, ys, rfl, .inr (SqT.of hb), rfl, _, rfl, iteNS (by rw [e]) ?_⟩⟩⟩
      refine ⟨_, rfl, _, rfl, a, b, xs, ys, rfl, SqT.of ha, SqT.of hb, e, for_wt (fun i σ H' => (∃ x2 x3, σ = [some (.ref a), some (.ref b), x2, x3]) /\ Same H H') ⟨⟨none, none, rfl⟩, Same.refl _⟩ (fun i σ H' _ ⟨_, sm⟩ => ⟨SqT.of (sm _ _ ha), SqT.of (sm _ _ hb)⟩) ?_ ?_⟩
      · rintro i T' vs' σ H' hlt ⟨x, y, hx, hy, rfl⟩ ⟨⟨x2, x3, rfl⟩, sm⟩ hT
        have s1 := same_new hT (.tup [x, y])
        refine ⟨T', _, rfl, SqT.of upd_same, rfl, _, _, rfl, _, _, rfl, rfl, ?_⟩
        exact ⟨_, rfl, _, rfl, x, y, rfl, ((hi i x y hx hy).same sm).same s1, fun H2 s2 => ⟨_, rfl, iteF ⟨⟨_, _, rfl⟩, (sm.trans s1).trans s2⟩⟩⟩
      · rintro σ H' ⟨⟨x2, x3, rfl⟩, sm⟩
        exact q H' sm
end
end K07
namespace K07
open PySem L2 NS TR
open TM hiding Endd Ms Run Step pcs run_all
theorem boot_VE : bootBuiltins "ValueError" = some (.type "ValueError") := by decide +kernel
theorem call_isxC {X : Cx} {K : PySem.W.Frag} (h : X.K = K) : CallR X (.builtin "isinstance") (fun xs H Q => ∃ (a C : Addr) (v : V) (b : Bool), xs = [.ref a, v] /\ H a = some (excO a C) /\ XCls K C /\
    ((∃ D, v = .ref D /\ PySem.W.kitOne K (.ref C) (.ref D) = some b) \/ (∃ T, v = .ty T /\ PySem.W.kitOne K (.ref C) (.type T) = some b) \/ (∃ (p : Addr) (ds : List Addr), v = .ref p /\ H p = some (.tup (ds.map V.ref)) /\ PySem.W.kitAny K (.ref C) (ds.map Value.ref) = some b)) /\ Q (.bl b) H) := h ▸ call_isx
def spTold : Sp := fun vs H Q _ => ∃ z : Str, vs = [.str z] /\ TxOk z /\
  ((∃ t, z = sh t /\ Wf t /\ parts t <= 30 /\ depth t <= 6 /\ ∀ l v H', Same H H' -> H' l = some (.lst [.str "told", v, .bl true]) -> TmIs H' t v -> Q (.ref l) H') \/
   (∃ t, z = sh t /\ Wf t /\ parts t <= 100 /\ (30 < parts t \/ 6 < depth t) /\ ∀ l H', Same H H' -> H' l = some (.lst [.str "great", .non, .bl true]) -> Q (.ref l) H') \/
   ((¬ ∃ t, z = sh t /\ Wf t) /\ ∀ l H', Same H H' -> H' l = some (.lst [.str "none", .non, .bl true]) -> Q (.ref l) H'))
def spRdL : Sp := fun vs H Q _ => ∃ (z : Str) (g : Bool), vs = [.str z, .bl g] /\ TxOk z /\ ((g = false /\ ∀ t, z = sh t -> Wf t -> parts t <= 30 /\ depth t <= 6) \/ (g = true /\ ∃ t, z = sh t /\ Wf t /\ parts t <= 100 /\ (30 < parts t \/ 6 < depth t))) /\ ∀ H', Same H H' -> Q (.bl true) H'
theorem tm_ne {H : Hp} {t : Tm} (h : TmIs H t .non) : False := by
  cases t with
  | call w ts =>
    unfold TmIs at h
    obtain ⟨_, _, _, h, _⟩ := h
    cases h
  | num n => unfold TmIs at h; obtain ⟨_, h, _⟩ := h; cases h
  | text z => unfold TmIs at h; obtain ⟨_, h, _⟩ := h; cases h
  | row => unfold TmIs at h; obtain ⟨_, h, _⟩ := h; cases h
  | mark => unfold TmIs at h; obtain ⟨_, h, _⟩ := h; cases h
  | val k z => unfold TmIs at h; obtain ⟨_, h, _⟩ := h; cases h
theorem sh_det {t u : Tm} (w : Wf t) (v : Wf u) (e : sh t = sh u) : t = u := told_is (run_of w) (by rw [e]) v
section
variable {P : Program} {w : World} {K : PySem.W.Frag} {mg : Str -> Option Value} {base : Heap} {T : Adr}
theorem ok_told (X : Tx K w mg T) : FnOk P w K mg base CX0 7 T.qtold T.d_qtold ["_law_line"] spTold := by
  have G_qreadterm := ok_read (P := P) (w := w) (base := base) X
  refine X.F_qtold.okQ sc_qtold (fun vs H Q E h => ?_) (fun cdv A outer s H vs Q E hr h => ?_)
  · obtain ⟨_, rfl, _⟩ := h
    rfl
  obtain ⟨z, rfl, tz, hor⟩ := h
  refine ⟨_, (qss_cons (qs_set (i := 1) sc_qtold.nd rfl (Or.inl rfl) qe_non) (qss_cons (qs_set (i := 2) sc_qtold.nd rfl (Or.inl rfl) qe_str) (qss_cons (qs_set (i := 3) sc_qtold.nd rfl (Or.inl rfl) qe_bl) (qss_cons (qs_tryA (i := 4) (j := 1) G_qreadterm hr rfl X.m_qreadterm X.F_qreadterm.kp X.b_qreadterm (qaN (qv 0) qa_nil) rfl X.m_LeafError X.e_LeafError sc_qtold.nd rfl rfl rfl rfl rfl rfl rfl (fun _ => (qss_cons (qs_set (i := 3) sc_qtold.nd rfl (Or.inl rfl) (qe_and (qe_callB (call_isxC (K := K) rfl) rfl X.z_isinstance PyProof.Rows.boot_isinstance (qaN (qv 4) (qaN (qe_bltn rfl X.z_ValueError boot_VE rfl (v := .ty "ValueError")) qa_nil))) (qe_one (qe_cmpR op_ne (qe_callB (call_isxC (K := K) rfl) rfl X.z_isinstance PyProof.Rows.boot_isinstance (qaN (qv 4) (qaN (qe_glob rfl X.m_NoText (v := V.ref T.k_NoText) rfl) qa_nil))) (qe_callB (call_isxC (K := K) rfl) rfl X.z_isinstance PyProof.Rows.boot_isinstance (qaN (qv 4) (qaN (qe_glob rfl X.m_TooGreat (v := V.ref T.k_TooGreat) rfl) qa_nil))) (nomark _))))) (qss_cons (qs_set (i := 2) sc_qtold.nd rfl (Or.inl rfl) (qe_ix (ix_listC (K := K) rfl) (qe_lst (qaC qe_str (qaC qe_str qa_nil))) (qe_callTy call_int1 rfl X.z_int PyProof.Rows.boot_int (qaK (qe_callB (call_isxC (K := K) rfl) rfl X.z_isinstance PyProof.Rows.boot_isinstance (qaN (qv 4) (qaN (qe_glob rfl X.m_TooGreat (v := V.ref T.k_TooGreat) rfl) qa_nil))) qa_nil)) (fun _ _ => rfl))) (qss_one (qs_if (qt_val (qe_callB (call_isxC (K := K) rfl) rfl X.z_isinstance PyProof.Rows.boot_isinstance (qaN (qv 4) (qaT (qe_tup (qaN (qe_glob rfl X.m_NoName (v := V.ref T.k_NoName) rfl) (qaN (qe_glob rfl X.m_NoRule (v := V.ref T.k_NoRule) rfl) (qaN (qe_glob rfl X.m_NoKind (v := V.ref T.k_NoKind) rfl) (qaN (qe_glob rfl X.m_NoTree (v := V.ref T.k_NoTree) rfl) (qaN (qe_glob rfl X.m_NoPlace (v := V.ref T.k_NoPlace) rfl) (qaN (qe_glob rfl X.m_NoGiven (v := V.ref T.k_NoGiven) rfl) (qaN (qe_glob rfl X.m_NoWalk (v := V.ref T.k_NoWalk) rfl) (qaN (qe_glob rfl X.m_Ring (v := V.ref T.k_Ring) rfl) qa_nil))))))))) qa_nil)))) (qss_one (qs_set (i := 3) sc_qtold.nd rfl (Or.inl rfl) qe_bl)) qss_nil)))))) (qss_one (qs_ret (qe_lst (qaN (qv 2) (qaN (qv 1) (qaN (qv 3) qa_nil)))))))))), ?_⟩
  rcases hor with ⟨t, ez, wt, h30, h6, k⟩ | ⟨t, ez, wt, h100, hg, k⟩ | ⟨hno, k⟩
  · refine ⟨_, rfl, z, rfl, tz, .inl ⟨t, ez, wt, by omega, (fun _ _ v H2 s2 hv => ?_), fun h => by omega⟩⟩
    refine ⟨_, rfl, _, rfl, _, rfl, (by show 3 <= sizeLine; decide), fun l hl => ?_⟩
    have s3 := same_new hl (.lst [.str "told", v, .bl true])
    exact k l v _ (s2.trans s3) upd_same (TmIs.same (sameT s3) t hv)
  · refine ⟨_, rfl, z, rfl, tz, .inl ⟨t, ez, wt, h100, (fun h1 h2 => by omega), fun _ H2 s2 => ?_⟩⟩
    refine ⟨T.k_TooGreat, rfl, X.e_TooGreat, X.u_TooGreat_LeafError, fun ex hex => ?_⟩
    have E1 := same_new hex (excO ex T.k_TooGreat)
    have hx := upd_same (H := H2) (a := ex) (o := excO ex T.k_TooGreat)
    generalize upd H2 ex (excO ex T.k_TooGreat) = H3 at E1 hx ⊢
    refine ⟨_, rfl, ex, T.k_TooGreat, _, _, rfl, hx, X.x_TooGreat, .inr (.inl ⟨_, rfl, X.i_TooGreat_1⟩), _, rfl, iteT ?_⟩
    refine ⟨_, rfl, ex, T.k_TooGreat, _, _, rfl, hx, X.x_TooGreat, .inl ⟨_, rfl, X.i_TooGreat_2⟩, _, rfl, ex, T.k_TooGreat, _, _, rfl, hx, X.x_TooGreat, .inl ⟨_, rfl, X.i_TooGreat_3⟩, rfl, ?_⟩
    refine ⟨(by show 2 <= sizeLine; decide), fun p hp => ?_⟩
    have E2 := same_new hp (.lst [.str "none", .str "great"])
    have hx2 := E2 _ _ hx
    refine ⟨_, rfl, ex, T.k_TooGreat, _, _, rfl, hx2, X.x_TooGreat, .inl ⟨_, rfl, X.i_TooGreat_3⟩, .inr ⟨_, rfl, p, _, _, .str "great", rfl, rfl, SqL.of upd_same, rfl, ?_⟩⟩
    refine ⟨_, rfl, (by show 8 <= sizeLine; decide), fun tp htp => ?_⟩
    have E3 := same_new htp (.tup ([T.k_NoName, T.k_NoRule, T.k_NoKind, T.k_NoTree, T.k_NoPlace, T.k_NoGiven, T.k_NoWalk, T.k_Ring].map V.ref))
    refine ⟨ex, T.k_TooGreat, _, _, rfl, E3 _ _ hx2, X.x_TooGreat, .inr (.inr ⟨tp, [T.k_NoName, T.k_NoRule, T.k_NoKind, T.k_NoTree, T.k_NoPlace, T.k_NoGiven, T.k_NoWalk, T.k_Ring], rfl, upd_same, X.i_TooGreat_0⟩), _, rfl, iteF ?_⟩
    refine ⟨_, rfl, _, rfl, _, rfl, (by show 3 <= sizeLine; decide), fun l hl => ?_⟩
    exact k l _ (s2.trans (E1.trans (E2.trans (E3.trans (same_new hl _))))) upd_same
  · refine ⟨_, rfl, z, rfl, tz, .inr ⟨bad_of hno, fun H2 s2 => ?_⟩⟩
    refine ⟨T.k_NoText, rfl, X.e_NoText, X.u_NoText_LeafError, fun ex hex => ?_⟩
    have E1 := same_new hex (excO ex T.k_NoText)
    have hx := upd_same (H := H2) (a := ex) (o := excO ex T.k_NoText)
    generalize upd H2 ex (excO ex T.k_NoText) = H3 at E1 hx ⊢
    refine ⟨_, rfl, ex, T.k_NoText, _, _, rfl, hx, X.x_NoText, .inr (.inl ⟨_, rfl, X.i_NoText_1⟩), _, rfl, iteT ?_⟩
    refine ⟨_, rfl, ex, T.k_NoText, _, _, rfl, hx, X.x_NoText, .inl ⟨_, rfl, X.i_NoText_2⟩, _, rfl, ex, T.k_NoText, _, _, rfl, hx, X.x_NoText, .inl ⟨_, rfl, X.i_NoText_3⟩, rfl, ?_⟩
    refine ⟨(by show 2 <= sizeLine; decide), fun p hp => ?_⟩
    have E2 := same_new hp (.lst [.str "none", .str "great"])
    have hx2 := E2 _ _ hx
    refine ⟨_, rfl, ex, T.k_NoText, _, _, rfl, hx2, X.x_NoText, .inl ⟨_, rfl, X.i_NoText_3⟩, .inr ⟨_, rfl, p, _, _, .str "none", rfl, rfl, SqL.of upd_same, rfl, ?_⟩⟩
    refine ⟨_, rfl, (by show 8 <= sizeLine; decide), fun tp htp => ?_⟩
    have E3 := same_new htp (.tup ([T.k_NoName, T.k_NoRule, T.k_NoKind, T.k_NoTree, T.k_NoPlace, T.k_NoGiven, T.k_NoWalk, T.k_Ring].map V.ref))
    refine ⟨ex, T.k_NoText, _, _, rfl, E3 _ _ hx2, X.x_NoText, .inr (.inr ⟨tp, [T.k_NoName, T.k_NoRule, T.k_NoKind, T.k_NoTree, T.k_NoPlace, T.k_NoGiven, T.k_NoWalk, T.k_Ring], rfl, upd_same, X.i_NoText_0⟩), _, rfl, iteF ?_⟩
    refine ⟨_, rfl, _, rfl, _, rfl, (by show 3 <= sizeLine; decide), fun l hl => ?_⟩
    exact k l _ (s2.trans (E1.trans (E2.trans (E3.trans (same_new hl _))))) upd_same
theorem ok_rdL (X : Tx K w mg T) : FnOk P w K mg base CX0 14 T.qread T.d_qread ["_law_line", "_law_great_here"] spRdL := by
  have G_qtold := (ok_told (P := P) (w := w) (base := base) X).mono (show 7 <= 13 by decide)
  have G_qdue := (ok_due (P := P) (w := w) (base := base) X).mono (show 3 <= 13 by decide)
  have G_qalike := ok_alike (P := P) (w := w) (base := base) X 12
  refine X.F_qread.okQ sc_qread (fun vs H Q E h => ?_) (fun cdv A outer s H vs Q E hr h => ?_)
  · obtain ⟨_, _, rfl, _⟩ := h
    rfl
  obtain ⟨z, g, rfl, tz, hor, k⟩ := h
  refine ⟨_, (qss_cons (qs_set (i := 2) sc_qread.nd rfl (Or.inl rfl) (qe_call G_qtold hr rfl X.m_qtold X.F_qtold.kp X.b_qtold .nil pass0 (qaN (qv 0) qa_nil))) (qss_cons (qs_set (i := 3) sc_qread.nd rfl (Or.inl rfl) (qe_call G_qdue hr rfl X.m_qdue X.F_qdue.kp X.b_qdue .nil pass0 (qaN (qv 0) qa_nil))) (qss_cons (qs_if (qt_not (qt_val (qe_ix ix_list (qv 2) qe_int (fun _ _ => rfl)))) (qss_one (qs_ret qe_bl)) qss_nil) (qss_cons (qs_if (qt_val (qv 1)) (qss_one (qs_ret (qe_and (qe_cmpR op_eq (qe_ix ix_list (qv 2) qe_int (fun _ _ => rfl)) qe_str (nomark _)) (qe_one (qe_cmpR op_notN (qv 3) qe_non (nomark _)))))) qss_nil) (qss_cons (qs_if (qt_isN (qv 3)) (qss_one (qs_ret (qe_cmpR op_eq (qe_ix ix_list (qv 2) qe_int (fun _ _ => rfl)) qe_str (nomark _)))) qss_nil) (qss_one (qs_ret (qe_and (qe_cmpR op_eq (qe_ix ix_list (qv 2) qe_int (fun _ _ => rfl)) qe_str (nomark _)) (qe_one (qe_call G_qalike hr rfl X.m_qalike X.F_qalike.kp X.b_qalike .nil pass0 (qaS (qe_ix ix_list (qv 2) qe_int (fun _ _ => rfl)) (qaN (qv 3) qa_nil)))))))))))), ?_⟩
  rcases hor with ⟨rfl, hsm⟩ | ⟨rfl, t, ez, wt, h100, hg⟩
  · by_cases hex : ∃ t, z = sh t /\ Wf t
    · obtain ⟨t, ez, wt⟩ := hex
      obtain ⟨h30, h6⟩ := hsm t ez wt
      refine ⟨_, rfl, z, rfl, tz, .inl ⟨t, ez, wt, h30, h6, fun l v H1 s1 hl hv => ?_⟩⟩
      refine ⟨_, rfl, z, rfl, tz, (fun u x H2 eu wu s2 hu => ?_), fun hn => absurd ⟨t, ez, wt⟩ hn⟩
      have := sh_det wt wu (ez.symm.trans eu)
      subst this
      have hl2 := s2 _ _ hl
      have hxn : ¬ x = V.non := fun e => by
        subst e
        exact tm_ne hu
      refine ⟨_, rfl, l, _, 2, _, rfl, rfl, SqL.of hl2, rfl, _, rfl, iteF ?_⟩
      refine ⟨_, rfl, _, rfl, iteF ?_⟩
      refine ⟨_, rfl, _, rfl, iteNd hxn ?_⟩
      refine ⟨_, rfl, l, _, 0, _, rfl, rfl, SqL.of hl2, rfl, rfl, _, rfl, iteT ?_⟩
      refine ⟨_, rfl, l, _, 1, _, rfl, rfl, SqL.of hl2, rfl, _, rfl, v, x, rfl, ?_, fun H3 s3 => k H3 (s1.trans (s2.trans s3))⟩
      exact (al_T t (TmIs.same (sameT s2) t hv) hu).mono (by omega)
    · refine ⟨_, rfl, z, rfl, tz, .inr (.inr ⟨hex, fun l H1 s1 hl => ?_⟩)⟩
      refine ⟨_, rfl, z, rfl, tz, (fun u x H2 eu wu s2 hu => absurd ⟨u, eu, wu⟩ hex), fun hn H2 s2 => ?_⟩
      have hl2 := s2 _ _ hl
      refine ⟨_, rfl, l, _, 2, _, rfl, rfl, SqL.of hl2, rfl, _, rfl, iteF ?_⟩
      refine ⟨_, rfl, _, rfl, iteF ?_⟩
      refine ⟨_, rfl, _, rfl, iteYd rfl ?_⟩
      exact ⟨_, rfl, l, _, 0, _, rfl, rfl, SqL.of hl2, rfl, rfl, k H2 (s1.trans s2)⟩
  · refine ⟨_, rfl, z, rfl, tz, .inr (.inl ⟨t, ez, wt, h100, hg, fun l H1 s1 hl => ?_⟩)⟩
    refine ⟨_, rfl, z, rfl, tz, (fun u x H2 eu wu s2 hu => ?_), fun hn => absurd ⟨t, ez, wt⟩ hn⟩
    have := sh_det wt wu (ez.symm.trans eu)
    subst this
    have hl2 := s2 _ _ hl
    have hxn : ¬ x = V.non := fun e => by
      subst e
      exact tm_ne hu
    refine ⟨_, rfl, l, _, 2, _, rfl, rfl, SqL.of hl2, rfl, _, rfl, iteF ?_⟩
    refine ⟨_, rfl, _, rfl, iteT ?_⟩
    refine ⟨_, rfl, l, _, 0, _, rfl, rfl, SqL.of hl2, rfl, rfl, _, rfl, iteT ?_⟩
    refine ⟨_, rfl, rfl, ?_⟩
    rw [decide_eq_false hxn]
    exact k H2 (s1.trans s2)
end
end K07
namespace K07
open PySem L2 NS TR
open TM hiding Endd Ms Run Step pcs run_all
theorem parts2 (t u : Tm) : partss [t, u] = parts t + parts u := by rw [partss, partss, partss]; omega
def spGreat : Sp := fun vs H Q _ => ∃ (c : Int) (t1 t2 : Tm) (v1 v2 : V), vs = [.int c, v1, v2] /\ Leaf t1 /\ Wf t1 /\ Leaf t2 /\ Wf t2 /\ IsL H t1 v1 /\ IsL H t2 v2 /\ ∀ t v H', Wf t -> parts t <= 100 -> Same H H' -> IsL H' t v -> Q v H'
section
variable {P : Program} {w : World} {K : PySem.W.Frag} {mg : Str -> Option Value} {base : Heap} {T : Adr}
theorem ok_great (X : Tx K w mg T) : FnOk P w K mg base CX0 3 T.qgreat T.d_qgreat ["_law_cell", "_law_leaf_here", "_law_other"] spGreat := by
  have G_qcall := ok_call (P := P) (w := w) (base := base) X
  refine X.F_qgreat.okQ sc_qgreat (fun vs H Q E h => ?_) (fun cdv A outer s H vs Q E hr h => ?_)
  · obtain ⟨_, _, _, _, _, rfl, _⟩ := h
    rfl
  obtain ⟨c, t1, t2, v1, v2, rfl, f1, w1, f2, w2, i1, i2, q⟩ := h
  refine ⟨_, (qss_cons (qs_set (i := 3) sc_qgreat.nd rfl (Or.inl rfl) (qe_call G_qcall hr rfl X.m_qcall X.F_qcall.kp X.b_qcall .nil pass0 (qaN (qv 0) (qaL (qe_lst (qaN (qv 1) (qaN (qv 2) (qaN (qv 1) qa_nil)))) qa_nil)))) (qss_cons (qs_set (i := 4) sc_qgreat.nd rfl (Or.inl rfl) (qe_call G_qcall hr rfl X.m_qcall X.F_qcall.kp X.b_qcall .nil pass0 (qaB (qe_op op_fdiv (qv 0) qe_int) (qaL (qe_lst (qaN (qv 3) (qaN (qv 3) (qaN (qv 3) qa_nil)))) qa_nil)))) (qss_cons (qs_set (i := 5) sc_qgreat.nd rfl (Or.inl rfl) (qv 1)) (qss_cons (qs_for PassesOwn.never rfl (qi_range1 rfl X.z_range (qaB (qe_op op_mod (qe_op op_fdiv (qv 0) qe_int) qe_int) qa_nil)) (qg_name (i := 6) sc_qgreat.nd rfl (Or.inl rfl)) (qss_one (qs_set (i := 5) sc_qgreat.nd rfl (Or.inl rfl) (qe_call G_qcall hr rfl X.m_qcall X.F_qcall.kp X.b_qcall .nil pass0 (qaB (qe_op op_add (qe_op op_fdiv (qv 0) qe_int) (qv 6)) (qaS (qe_slice sl_list (qe_lst (qaN (qv 5) (qaN (qv 2) (qaN (qv 1) qa_nil)))) qo_none (qo_some (qe_op op_add qe_int (qe_op op_mod (qe_op op_fdiv (qv 0) (qe_ix ix_list (qe_lst (qaC qe_int (qaC qe_int (qaC qe_int (qaC qe_int qa_nil))))) (qv 6) (fun _ _ => rfl))) qe_int)))) qa_nil)))))) (qss_cons (qs_set (i := 7) sc_qgreat.nd rfl (Or.inl rfl) (qe_call G_qcall hr rfl X.m_qcall X.F_qcall.kp X.b_qcall .nil pass0 (qaB (qe_op op_fdiv (qv 0) qe_int) (qaS (qe_ix ix_list (qe_lst (qaL (qe_lst (qaN (qv 4) (qaN (qv 5) (qaN (qv 4) qa_nil)))) (qaL (qe_lst (qaN (qv 4) (qaN (qv 4) (qaN (qv 5) qa_nil)))) (qaL (qe_lst (qaN (qv 5) (qaN (qv 4) (qaN (qv 4) qa_nil)))) qa_nil)))) (qe_op op_mod (qe_op op_fdiv (qv 0) qe_int) qe_int) (fun _ _ => rfl)) qa_nil)))) (qss_cons (qs_for PassesOwn.never rfl (qi_range1 rfl X.z_range (qaB (qe_op op_mod (qe_op op_fdiv (qv 0) qe_int) qe_int) qa_nil)) (qg_name (i := 6) sc_qgreat.nd rfl (Or.inl rfl)) (qss_one (qs_set (i := 7) sc_qgreat.nd rfl (Or.inl rfl) (qe_call G_qcall hr rfl X.m_qcall X.F_qcall.kp X.b_qcall .nil pass0 (qaB (qe_op op_add (qe_op op_fdiv (qv 0) qe_int) (qv 6)) (qaL (qe_lst (qaN (qv 7) qa_nil)) qa_nil)))))) (qss_one (qs_ret (qv 7))))))))), ?_⟩
  have p1 := parts_leaf f1
  have p2 := parts_leaf f2
  refine ⟨_, rfl, _, rfl, _, rfl, _, rfl, (by show 3 <= sizeLine; decide), fun l3 h3 => ?_⟩
  have n3 := same_new h3 (.lst [v1, v2, v1])
  refine ⟨_, l3, [t1, t2, t1], _, rfl, upd_same, IsLs.three (i1.same n3) (i2.same n3) (i1.same n3), by simp, by simp, wf3 w1 w2 w1, by rw [parts3]; omega, fun e4 v4 H4 de4 s4 i4 _ => ?_⟩
  have w4 := wf_call de4 (by simp) (by simp) (wf3 w1 w2 w1)
  have p4 : parts (.call e4 [t1, t2, t1]) = 4 := by rw [parts, parts3]; omega
  have sm4 := n3.trans s4
  have i1b := i1.same sm4
  have i2b := i2.same sm4
  generalize Tm.call e4 [t1, t2, t1] = t4 at i4 w4 p4
  refine ⟨_, rfl, _, _, rfl, rfl, ⟨by decide, by decide⟩, _, rfl, _, rfl, _, rfl, (by show 3 <= sizeLine; decide), fun l5 h5 => ?_⟩
  have n5 := same_new h5 (.lst [v4, v4, v4])
  refine ⟨_, l5, [t4, t4, t4], _, rfl, upd_same, IsLs.three (i4.same n5) (i4.same n5) (i4.same n5), by simp, by simp, wf3 w4 w4 w4, by rw [parts3]; omega, fun e6 v6 H6 de6 s6 i6 _ => ?_⟩
  have w6 := wf_call de6 (by simp) (by simp) (wf3 w4 w4 w4)
  have p6 : parts (.call e6 [t4, t4, t4]) = 13 := by rw [parts, parts3]; omega
  have sm6 := sm4.trans (n5.trans s6)
  have i1c := i1b.same (n5.trans s6)
  have i2c := i2b.same (n5.trans s6)
  generalize Tm.call e6 [t4, t4, t4] = t6 at i6 w6 p6
  refine ⟨_, rfl, ?_⟩
  have c50 := Int.emod_nonneg (c / 5) (show (5 : Int) ≠ 0 by decide)
  have c51 := Int.emod_lt_of_pos (c / 5) (show (0 : Int) < 5 by decide)
  refine ⟨_, rfl, _, _, rfl, rfl, ⟨by decide, by decide⟩, _, _, rfl, rfl, (by show (0 : Int) < 5; decide), _, rfl, by omega, by omega, ?_⟩
  refine for_range (n := (c / 5 % 5).toNat) (fun i σ H' => Same H6 H' /\ ∃ t v x6 x7, σ = [some (.int c), some v1, some v2, some v4, some v6, some v, x6, x7] /\ IsL H' t v /\ Wf t /\ parts t <= 3 * i + 1 /\ i <= 4)
    ⟨Same.refl _, t1, v1, none, none, rfl, i1c, w1, by omega, by decide⟩ ?_ ?_
  · rintro i σ H' hi ⟨sm, t, v, x6, x7, rfl, it, wt, pt, hi4⟩
    have hi5 : i < 4 := by omega
    refine ⟨_, rfl, _, _, rfl, rfl, ⟨by decide, by decide⟩, _, rfl, _, _, rfl, rfl, _, rfl, _, rfl, _, rfl, (by show 3 <= sizeLine; decide), fun l7 h7 => ?_⟩
    have n7 := same_new h7 (.lst [v, v2, v1])
    refine ⟨_, rfl, (by show 4 <= sizeLine; decide), fun l8 h8 => ?_⟩
    have n8 := same_new h8 (.lst [.int 25, .int 75, .int 225, .int 675])
    obtain ⟨d, hd, d0, d1⟩ : ∃ d : Int, atI [V.int 25, V.int 75, V.int 225, V.int 675] (0 + (i : Int)) = some (.int d) /\ 0 < d /\ d < 1000 := by
      have : i = 0 \/ i = 1 \/ i = 2 \/ i = 3 := by omega
      rcases this with rfl | rfl | rfl | rfl
      · exact ⟨25, rfl, by decide, by decide⟩
      · exact ⟨75, rfl, by decide, by decide⟩
      · exact ⟨225, rfl, by decide, by decide⟩
      · exact ⟨675, rfl, by decide, by decide⟩
    have r0 := Int.emod_nonneg (c / d) (show (3 : Int) ≠ 0 by decide)
    have r1 := Int.emod_lt_of_pos (c / d) (show (0 : Int) < 3 by decide)
    refine ⟨_, rfl, l8, _, _, _, rfl, rfl, SqL.of upd_same, hd, _, _, rfl, rfl, ⟨by omega, by omega⟩, _, _, rfl, rfl, (by show (0 : Int) < 3; decide), _, _, rfl, rfl, _, rfl, l7, _, rfl, SqL.of (n8 _ _ upd_same), fun l9 h9 => ?_⟩
    have n78 := n7.trans n8
    have it8 := it.same n78
    have i18 := (i1c.same sm).same n78
    have i28 := (i2c.same sm).same n78
    generalize upd (upd H' l7 (.lst [v, v2, v1])) l8 (.lst [.int 25, .int 75, .int 225, .int 675]) = H8 at n78 it8 i18 i28 h9 ⊢
    obtain ⟨k, hk, k1, k3⟩ : ∃ k : Nat, 1 + c / d % 3 = (k : Int) /\ 1 <= k /\ k <= 3 := ⟨(1 + c / d % 3).toNat, by omega, by omega, by omega⟩
    dsimp only
    rw [hk, cut_take' _ k]
    have n9 := same_new h9 (.lst ([v, v2, v1].take k))
    have full : IsLs H8 [t, t2, t1] [v, v2, v1] := IsLs.three it8 i28 i18
    have tk := (full.take k).same n9
    have wtk : Wfs ([t, t2, t1].take k) := wfs_of fun u hu => wfs_mem (wf3 wt w2 w1) u (List.mem_of_mem_take hu)
    have ptk : partss ([t, t2, t1].take k) <= parts t + 2 := by
      have : k = 1 \/ k = 2 \/ k = 3 := by omega
      rcases this with rfl | rfl | rfl
      · show partss [t] <= _; rw [parts1]; omega
      · show partss [t, t2] <= _; rw [parts2]; omega
      · show partss [t, t2, t1] <= _; rw [parts3]; omega
    have ntk : [t, t2, t1].take k ≠ [] := fun z => by
      have := congrArg List.length z
      rw [List.length_take] at this
      simp at this
      omega
    have ltk : ([t, t2, t1].take k).length <= 3 := by rw [List.length_take]; simp; omega
    refine ⟨_, l9, _, _, rfl, upd_same, tk, ntk, ltk, wtk, by omega, fun e10 v10 H10 de10 s10 i10 _ => ?_⟩
    exact ⟨sm.trans (n78.trans (n9.trans s10)), _, _, _, _, rfl, i10, wf_call de10 ntk ltk wtk, by rw [parts]; omega, by omega⟩
  · rintro σ H' ⟨sm, t, v, x6, x7, rfl, it, wt, pt, hi4⟩
    have pt : parts t <= 13 := by omega
    have i6' := i6.same sm
    refine ⟨_, rfl, _, _, rfl, rfl, ⟨by decide, by decide⟩, _, rfl, _, rfl, _, rfl, (by show 3 <= sizeLine; decide), fun a1 ha1 => ?_⟩
    have b1 := same_new ha1 (.lst [v6, v, v6])
    refine ⟨_, rfl, _, rfl, _, rfl, (by show 3 <= sizeLine; decide), fun a2 ha2 => ?_⟩
    have b2 := same_new ha2 (.lst [v6, v6, v])
    refine ⟨_, rfl, _, rfl, _, rfl, (by show 3 <= sizeLine; decide), fun a3 ha3 => ?_⟩
    have b3 := same_new ha3 (.lst [v, v6, v6])
    refine ⟨(by show 3 <= sizeLine; decide), fun a4 ha4 => ?_⟩
    have b4 := same_new ha4 (.lst [.ref a1, .ref a2, .ref a3])
    have b14 := b1.trans (b2.trans (b3.trans b4))
    have g1 := (b2.trans (b3.trans b4)) _ _ (upd_same (H := H') (a := a1) (o := .lst [v6, v, v6]))
    have g2 := (b3.trans b4) _ _ (upd_same (H := upd H' a1 (.lst [v6, v, v6])) (a := a2) (o := .lst [v6, v6, v]))
    have g3 := b4 _ _ (upd_same (H := upd (upd H' a1 (.lst [v6, v, v6])) a2 (.lst [v6, v6, v])) (a := a3) (o := .lst [v, v6, v6]))
    have g4 := upd_same (H := upd (upd (upd H' a1 (.lst [v6, v, v6])) a2 (.lst [v6, v6, v])) a3 (.lst [v, v6, v6])) (a := a4) (o := .lst [.ref a1, .ref a2, .ref a3])
    generalize upd (upd (upd (upd H' a1 (.lst [v6, v, v6])) a2 (.lst [v6, v6, v])) a3 (.lst [v, v6, v6])) a4 (.lst [.ref a1, .ref a2, .ref a3]) = H7 at b14 g1 g2 g3 g4 ⊢
    have i6'' := i6'.same b14
    have it7 := it.same b14
    obtain ⟨al, ts, qs, hat, hal, hls, hw, hn, h3, hps⟩ : ∃ (al : Addr) (ts : List Tm) (qs : List V), atI [V.ref a1, V.ref a2, V.ref a3] (c / 25 % 3) = some (.ref al) /\ H7 al = some (.lst qs) /\ IsLs H7 ts qs /\ Wfs ts /\ ts ≠ [] /\ ts.length <= 3 /\ partss ts <= 39 := by
      have : c / 25 % 3 = 0 \/ c / 25 % 3 = 1 \/ c / 25 % 3 = 2 := by omega
      rcases this with e | e | e <;> rw [e]
      · exact ⟨a1, [t6, t, t6], _, rfl, g1, IsLs.three i6'' it7 i6'', wf3 w6 wt w6, by simp, by simp, by rw [parts3]; omega⟩
      · exact ⟨a2, [t6, t6, t], _, rfl, g2, IsLs.three i6'' i6'' it7, wf3 w6 w6 wt, by simp, by simp, by rw [parts3]; omega⟩
      · exact ⟨a3, [t, t6, t6], _, rfl, g3, IsLs.three it7 i6'' i6'', wf3 wt w6 w6, by simp, by simp, by rw [parts3]; omega⟩
    refine ⟨_, rfl, _, _, rfl, rfl, ⟨by decide, by decide⟩, _, _, rfl, rfl, (by show (0 : Int) < 3; decide), a4, _, _, _, rfl, rfl, SqL.of g4, hat, _, al, ts, qs, rfl, hal, hls, hn, h3, hw, by omega, fun e8 v8 H8 de8 s8 i8 _ => ?_⟩
    have w8 := wf_call de8 hn h3 hw
    have p8 : parts (.call e8 ts) <= 40 := by rw [parts]; omega
    have sm8 := sm6.trans (sm.trans (b14.trans s8))
    generalize Tm.call e8 ts = t8 at i8 w8 p8
    have c40 := Int.emod_nonneg (c / 2025) (show (4 : Int) ≠ 0 by decide)
    have c41 := Int.emod_lt_of_pos (c / 2025) (show (0 : Int) < 4 by decide)
    refine ⟨_, rfl, _, _, rfl, rfl, ⟨by decide, by decide⟩, _, _, rfl, rfl, (by show (0 : Int) < 4; decide), _, rfl, by omega, by omega, ?_⟩
    refine for_range (n := (c / 2025 % 4).toNat) (fun i σ H' => Same H8 H' /\ ∃ t v x5 x6, σ = [some (.int c), some v1, some v2, some v4, some v6, x5, x6, some v] /\ IsL H' t v /\ Wf t /\ parts t <= 40 + i)
      ⟨Same.refl _, t8, v8, _, _, rfl, i8, w8, by omega⟩ ?_ ?_
    · rintro i σ H9 hi ⟨sm9, t9, v9, x5, x6', rfl, it9, wt9, pt9⟩
      refine ⟨_, rfl, _, _, rfl, rfl, ⟨by decide, by decide⟩, _, rfl, _, _, rfl, rfl, _, rfl, (by show 1 <= sizeLine; decide), fun l10 h10 => ?_⟩
      have n10 := same_new h10 (.lst [v9])
      refine ⟨_, l10, [t9], _, rfl, upd_same, IsLs.one (it9.same n10), by simp, by simp, wf1 wt9, by rw [parts1]; omega, fun e11 v11 H11 de11 s11 i11 _ => ?_⟩
      exact ⟨sm9.trans (n10.trans s11), _, _, _, _, rfl, i11, wf_call de11 (by simp) (by simp) (wf1 wt9), by rw [parts, parts1]; omega⟩
    · rintro σ H9 ⟨sm9, t9, v9, x5, x6', rfl, it9, wt9, pt9⟩
      exact ⟨_, rfl, q t9 v9 H9 wt9 (by omega) (sm8.trans sm9) it9⟩
end
end K07
namespace K07
open PySem L2 NS TR
open TM hiding Endd Ms Run Step pcs run_all
def spLaw (K : PySem.W.Frag) : Sp := fun vs H Q _ => ∃ (a : Addr) (ns : List Int), vs = [.ref a] /\ SqL K H a (ns.map V.int) /\ ns.length <= 63 /\ ∀ H', Q (.bl true) H'
theorem at_int {cs : List Int} {i : Nat} (h : i < cs.length) : ∃ c, atI (cs.map V.int) (i : Int) = some (.int c) := by
  refine ⟨cs[i], atI_nat ?_⟩
  rw [List.getElem?_map, List.getElem?_eq_getElem h]
  rfl
section
variable {P : Program} {w : World} {K : PySem.W.Frag} {mg : Str -> Option Value} {base : Heap} {T : Adr}
theorem ok_law (X : Tx K w mg T) : FnOk P w K mg base CX0 120 T.law T.d_law ["_law_script"] (spLaw K) := by
  have G_qlines := (ok_lines (P := P) (w := w) (base := base) X).mono (show 4 <= 119 by decide)
  have G_qedited := (ok_edited (P := P) (w := w) (base := base) X).mono (show 1 <= 119 by decide)
  have G_qread := (ok_rdL (P := P) (w := w) (base := base) X).mono (show 14 <= 119 by decide)
  have G_qleaf := (ok_leaf (P := P) (w := w) (base := base) X).mono (show 3 <= 119 by decide)
  have G_qgreat := (ok_great (P := P) (w := w) (base := base) X).mono (show 3 <= 119 by decide)
  have G_qcall := (ok_call (P := P) (w := w) (base := base) X).mono (show 2 <= 119 by decide)
  refine X.F_law.okQ sc_law (fun vs H Q E h => ?_) (fun cdv A outer s H vs Q E hr h => ?_)
  · obtain ⟨_, _, rfl, _⟩ := h
    rfl
  obtain ⟨a, ns, rfl, hS, h63, q⟩ := h
  refine ⟨_, (qss_cons (qs_setC (ys := []) (js := []) rfl rfl (qi_list (qe_slice sl_list (qv 0) qo_none (qo_some qe_int))) (fun _ _ _ _ _ => qif_nil) (fun _ _ _ _ _ => (qe_op op_mod (qv 0) (qe_op op_pow qe_int qe_int))) (qg_name (i := 1) sc_law.nd rfl (Or.inl rfl)) rfl) (qss_cons (qs_set (i := 2) sc_law.nd rfl (Or.inl rfl) (qe_call G_qlines hr rfl X.m_qlines X.F_qlines.kp X.b_qlines .nil pass0 (qaN (qv 1) (qaC qe_int (qaC qe_int qa_nil))))) (qss_cons (qs_for PassesOwn.never rfl (qi_range1 rfl X.z_range (qaK (qe_callB call_len_seq rfl X.z_len PySem.boot_len (qaN (qv 2) qa_nil)) qa_nil)) (qg_name (i := 3) sc_law.nd rfl (Or.inl rfl)) (qss_one (qs_if (qt_not (qt_val (qe_call G_qread hr rfl X.m_qread X.F_qread.kp X.b_qread .nil pass0 (qaK (qe_call G_qedited hr rfl X.m_qedited X.F_qedited.kp X.b_qedited .nil pass0 (qaS (qe_ix ix_list (qv 2) (qv 3) (fun _ _ => rfl)) (qaB (qe_op op_add (qe_ix ix_list (qv 1) (qv 3) (fun _ _ => rfl)) (qe_op op_mul (qv 3) (qv 3))) qa_nil))) (qaC qe_bl qa_nil))))) (qss_one (qs_ret qe_bl)) qss_nil))) (qss_cons (qs_if (qt_cmpR op_lt (qe_callB call_len_seq rfl X.z_len PySem.boot_len (qaN (qv 1) qa_nil)) qe_int (nomark _)) (qss_one (qs_ret qe_bl)) qss_nil) (qss_cons (qs_set (i := 4) sc_law.nd rfl (Or.inl rfl) (qe_call G_qleaf hr rfl X.m_qleaf X.F_qleaf.kp X.b_qleaf .nil pass0 (qaB (qe_op op_fdiv (qe_ix ix_list (qv 1) qe_int (fun _ _ => rfl)) qe_int) qa_nil))) (qss_cons (qs_set (i := 5) sc_law.nd rfl (Or.inl rfl) (qe_call G_qleaf hr rfl X.m_qleaf X.F_qleaf.kp X.b_qleaf .nil pass0 (qaB (qe_op op_fdiv (qe_ix ix_list (qv 1) qe_int (fun _ _ => rfl)) qe_int) qa_nil))) (qss_cons (qs_set (i := 6) sc_law.nd rfl (Or.inl rfl) (qe_call G_qgreat hr rfl X.m_qgreat X.F_qgreat.kp X.b_qgreat .nil pass0 (qaS (qe_ix ix_list (qv 1) qe_int (fun _ _ => rfl)) (qaN (qv 4) (qaN (qv 5) qa_nil))))) (qss_cons (qs_set (i := 7) sc_law.nd rfl (Or.inl rfl) (qv 4)) (qss_cons (qs_for PassesOwn.never rfl (qi_range1 rfl X.z_range (qaB (qe_op op_mod (qe_ix ix_list (qv 1) qe_int (fun _ _ => rfl)) qe_int) qa_nil)) (qg_name (i := 3) sc_law.nd rfl (Or.inl rfl)) (qss_one (qs_set (i := 7) sc_law.nd rfl (Or.inl rfl) (qe_call G_qcall hr rfl X.m_qcall X.F_qcall.kp X.b_qcall .nil pass0 (qaB (qe_op op_add (qe_op op_fdiv (qe_ix ix_list (qv 1) qe_int (fun _ _ => rfl)) qe_int) (qv 3)) (qaL (qe_lst (qaN (qv 7) qa_nil)) qa_nil)))))) (qss_cons (qs_for PassesOwn.never rfl (qi_list (qe_lst (qaN (qv 6) (qaN (qv 7) qa_nil)))) (qg_name (i := 8) sc_law.nd rfl (Or.inl rfl)) (qss_one (qs_if (qt_not (qt_val (qe_call G_qread hr rfl X.m_qread X.F_qread.kp X.b_qread .nil pass0 (qaS (qe_ix ix_list (qv 8) qe_int (fun _ _ => rfl)) (qaO (qe_or (qe_cmpR op_gt (qe_ix ix_list (qv 8) qe_int (fun _ _ => rfl)) qe_int (nomark _)) (qe_one (qe_cmpR op_gt (qe_ix ix_list (qv 8) qe_int (fun _ _ => rfl)) qe_int (nomark _)))) qa_nil))))) (qss_one (qs_ret qe_bl)) qss_nil))) (qss_one (qs_ret qe_bl)))))))))))), ?_⟩
  refine ⟨_, rfl, _, rfl, a, _, rfl, hS, fun sl h4 => ?_⟩
  have ecs : cutV (ns.map V.int) none (some 63) = ns.map V.int := by
    rw [show (some 63 : Option Int) = some ((63 : Nat) : Int) from rfl, cut_take', List.take_of_length_le (by rw [List.length_map]; exact h63)]
  rw [ecs]
  refine ⟨sl, rfl, ⟨_, SqL.of upd_same⟩, fun D hD => ?_⟩
  refine comp_lstM (K := K) (ys := (ns.map fun n => n % 10 ^ Int.toNat 18).map V.int) (fitsL (by rw [List.length_map]; omega)) (by simp) (SqL.of upd_same) hD (fun i x y H2 hx hy s2 Q' k => ?_) fun H2 s2 hD2 => ?_
  · rw [List.getElem?_map] at hx
    rw [List.getElem?_map, List.getElem?_map] at hy
    cases e : ns[i]? with
    | none => rw [e] at hx; cases hx
    | some n =>
      rw [e] at hx hy
      cases hx
      cases hy
      exact ⟨_, rfl, _, _, rfl, rfl, ⟨by decide, by decide, by decide⟩, _, _, rfl, rfl, (by show (0 : Int) < 10 ^ Int.toNat 18; decide), k H2 (Same.refl H2)⟩
  generalize hcs : (ns.map fun n => n % 10 ^ Int.toNat 18) = cs at hD2
  have lcs : cs.length <= 63 := by rw [<- hcs, List.length_map]; exact h63
  clear hcs
  refine ⟨_, rfl, D, cs, rfl, hD2, lcs, fun m ts H3 s3 hm good hlt => ?_⟩
  have hD3 := s3 _ _ hD2
  have lsh : ((shs ts).map V.str).length = ts.length := by rw [List.length_map, shs_len]
  refine ⟨_, rfl, m, _, rfl, .inl (SqL.of hm), _, rfl, by omega, by omega, ?_⟩
  refine for_range (n := (((shs ts).map V.str).length : Int).toNat) (fun i σ H' => Same H3 H' /\ ∃ x3, σ = [some (.ref a), some (.ref D), some (.ref m), x3, none, none, none, none, none]) ⟨Same.refl _, none, rfl⟩ ?_ ?_
  · rintro i σ H' hi ⟨sm, x3, rfl⟩
    have hi : i < ts.length := by rw [lsh] at hi; omega
    obtain ⟨t, ht⟩ : ∃ t, ts[i]? = some t := ⟨_, List.getElem?_eq_getElem hi⟩
    obtain ⟨c, hc⟩ := at_int (cs := cs) (i := i) (by omega)
    have e0 : (0 + (i : Int)) = (i : Int) := by omega
    have gt := good t (List.mem_of_getElem? ht)
    refine ⟨_, rfl, _, rfl, m, _, _, .str (sh t), rfl, rfl, SqL.of (sm _ _ hm), by rw [e0]; exact atI_nat (by rw [List.getElem?_map, shs_map, List.getElem?_map, ht]; rfl), _, rfl, _, rfl, D, _, _, .int c, rfl, rfl, SqL.of (sm _ _ hD3), by rw [e0]; exact hc, _, rfl, _, rfl, _, _, rfl, rfl, .inl ⟨by omega, by omega⟩, _, _, rfl, rfl, t, _, rfl, gt, fun z tz ⟨A, B, m', n', e1, e2, hm', hn'⟩ => ?_⟩
    refine ⟨z, false, rfl, tz, .inl ⟨rfl, fun u eu wu => edit_ok gt.1 wu e1 (by rw [<- eu]; exact e2) hm' hn' gt.2.1 gt.2.2⟩, fun H5 s5 => ⟨_, rfl, iteF ⟨sm.trans s5, _, rfl⟩⟩⟩
  · rintro σ H' ⟨sm, x3, rfl⟩
    have hD4 := sm _ _ hD3
    refine ⟨_, rfl, D, _, rfl, .inl (SqL.of hD4), _, _, rfl, rfl, _, rfl, iteDd (fun _ => q _) (fun h2 => ?_)⟩
    rw [List.length_map] at h2
    obtain ⟨c0, hc0⟩ := at_int (cs := cs) (i := 0) (by omega)
    obtain ⟨c1, hc1⟩ := at_int (cs := cs) (i := 1) (by omega)
    refine ⟨_, rfl, D, _, _, .int c0, rfl, rfl, SqL.of hD4, hc0, _, _, rfl, rfl, ⟨by decide, by decide⟩, _, rfl, fun t1 v1 H5 f1 w1 s5 i1 _ => ?_⟩
    have hD5 := s5 _ _ hD4
    refine ⟨_, rfl, D, _, _, .int c1, rfl, rfl, SqL.of hD5, hc1, _, _, rfl, rfl, ⟨by decide, by decide⟩, _, rfl, fun t2 v2 H6 f2 w2 s6 i2 _ => ?_⟩
    have hD6 := s6 _ _ hD5
    refine ⟨_, rfl, D, _, _, .int c0, rfl, rfl, SqL.of hD6, hc0, _, rfl, _, rfl, _, t1, t2, v1, v2, rfl, f1, w1, f2, w2, i1.same s6, i2, fun tg vg H7 wg pg s7 ig => ?_⟩
    have hD7 := s7 _ _ hD6
    have i17 := i1.same (s6.trans s7)
    refine ⟨_, rfl, ?_⟩
    have m0 := Int.emod_nonneg c1 (show (30 : Int) ≠ 0 by decide)
    have m1 := Int.emod_lt_of_pos c1 (show (0 : Int) < 30 by decide)
    refine ⟨_, rfl, D, _, _, .int c1, rfl, rfl, SqL.of hD7, hc1, _, _, rfl, rfl, (by show (0 : Int) < 30; decide), _, rfl, by omega, by omega, ?_⟩
    refine for_range (n := (c1 % 30).toNat) (fun i σ H' => Same H7 H' /\ ∃ t v x3, σ = [some (.ref a), some (.ref D), some (.ref m), x3, some v1, some v2, some vg, some v, none] /\ IsL H' t v /\ Wf t /\ parts t <= 1 + i) ⟨Same.refl _, t1, v1, _, rfl, i17, w1, by rw [parts_leaf f1]; decide⟩ ?_ ?_
    · rintro i σ H8 hi ⟨sm8, t, v, y3, rfl, it, wt, pt⟩
      refine ⟨_, rfl, D, _, _, .int c1, rfl, rfl, SqL.of (sm8 _ _ hD7), hc1, _, _, rfl, rfl, ⟨by decide, by decide⟩, _, rfl, _, _, rfl, rfl, _, rfl, (by show 1 <= sizeLine; decide), fun l10 h10 => ?_⟩
      have n10 := same_new h10 (.lst [v])
      refine ⟨_, l10, [t], _, rfl, upd_same, IsLs.one (it.same n10), by simp, by simp, wf1 wt, by rw [parts1]; omega, fun e11 v11 H11 de11 s11 i11 _ => ?_⟩
      exact ⟨sm8.trans (n10.trans s11), _, _, _, rfl, i11, wf_call de11 (by simp) (by simp) (wf1 wt), by rw [parts, parts1]; omega⟩
    · rintro σ H8 ⟨sm8, td, vd, y3, rfl, it, wt, pt⟩
      have pd : parts td <= 100 := by omega
      refine ⟨_, rfl, _, rfl, (by show 2 <= sizeLine; decide), fun l9 h9 => ?_⟩
      have n9 := same_new h9 (.lst [vg, vd])
      have hl9 := upd_same (H := H8) (a := l9) (o := .lst [vg, vd])
      have ig9 := ig.same (sm8.trans n9)
      have it9 := it.same n9
      generalize upd H8 l9 (.lst [vg, vd]) = H9 at n9 hl9 ig9 it9 ⊢
      refine ⟨l9, rfl, ⟨_, SqL.of hl9⟩, ?_⟩
      refine for_list (K := K) (a := l9) (xs := [vg, vd]) (fun i σ H' => Same H9 H' /\ ∃ x8, σ = [some (.ref a), some (.ref D), some (.ref m), y3, some v1, some v2, some vg, some vd, x8]) ⟨Same.refl _, none, rfl⟩ (fun i σ H' _ ⟨s, _⟩ => SqL.of (s _ _ hl9)) ?_ ?_
      · rintro i v σ H' hv ⟨smx, x8, rfl⟩
        obtain ⟨t, wt', pt', il⟩ : ∃ t, Wf t /\ parts t <= 100 /\ IsL H' t v := by
          match i, hv with
          | 0, hv => cases hv; exact ⟨tg, wg, pg, ig9.same smx⟩
          | 1, hv => cases hv; exact ⟨td, wt, pd, it9.same smx⟩
        obtain ⟨b, rfl, hb⟩ := il
        have tz := sh_tx wt' pt'
        refine ⟨_, rfl, b, _, 0, _, rfl, rfl, SqL.of hb, rfl, _, rfl, b, _, 1, _, rfl, rfl, SqL.of hb, rfl, _, _, rfl, rfl, _, rfl, iteDd (fun h30 => ?_) (fun h30 => ?_)⟩
        · exact ⟨sh t, true, rfl, tz, .inr ⟨rfl, t, rfl, wt', pt', .inl (by omega)⟩, fun H5 s5 => ⟨_, rfl, iteF ⟨smx.trans s5, _, rfl⟩⟩⟩
        · refine ⟨_, rfl, b, _, 2, _, rfl, rfl, SqL.of hb, rfl, _, _, rfl, rfl, ?_⟩
          by_cases h6 : (6 : Int) < ((depth t : Nat) : Int)
          · exact ⟨sh t, true, by show [V.str (sh t), V.bl (decide _)] = _; rw [decide_eq_true h6], tz, .inr ⟨rfl, t, rfl, wt', pt', .inr (by omega)⟩, fun H5 s5 => ⟨_, rfl, iteF ⟨smx.trans s5, _, rfl⟩⟩⟩
          · refine ⟨sh t, false, by show [V.str (sh t), V.bl (decide _)] = _; rw [decide_eq_false h6], tz, .inl ⟨rfl, fun u eu wu => ?_⟩, fun H5 s5 => ⟨_, rfl, iteF ⟨smx.trans s5, _, rfl⟩⟩⟩
            have := sh_det wt' wu eu
            subst this
            exact ⟨by omega, by omega⟩
      · rintro σ H' ⟨smx, x8, rfl⟩
        exact q _
end
end K07
namespace K07
open PySem L2
end K07
open PySem PySem.W PyProof.Rows
set_option maxRecDepth 100000 in
set_option maxHeartbeats 0 in
theorem PySem.Challenge.cw_leafsay_k07_terms_refused_holds : PySem.Challenge.rw_leafsay_k07_terms_refused.Holds := by
  w_on; o_law; k_head; (case hw => w_witness2)
  k_fill
  refine L2.walk_ofK (l := PySem.Challenge.rw_leafsay_k07_terms_refused) (n := 63) (k := 120) (x := "_law_script") (CX := L2.CX0) (sp := K07.spLaw) rfl (by decide) rfl ⟨rfl, by decide, by decide, rfl⟩ (fun w h Y => PySem.W.kIn_of Y) ?F (fun K H a ns hl _ hS => ⟨a, ns, rfl, hS, hl, fun _ => rfl⟩) (fun _ _ _ _ z => z)
  case F =>
    intro w mg fa h KX G hmg
    have T : ∃ T : K07.Adr, K07.Tx (L2.KOf KX) w mg T := by
      dsimp only [L2.KOf]
      refine' K07.tx_mk KX G ?m_LeafError ?m_NoText ?m_TooGreat ?m_NoName ?m_NoRule ?m_NoKind ?m_NoTree ?m_NoPlace ?m_NoGiven ?m_NoWalk ?m_Ring ?m_NestReader ?a0 ?l0 ?c0 ?k0 ?a1 ?l1 ?c1 ?k1 ?a2 ?l2 ?c2 ?k2 ?a3 ?l3 ?c3 ?k3 ?a4 ?l4 ?c4 ?k4 ?a5 ?l5 ?c5 ?k5 ?a6 ?l6 ?c6 ?k6 ?a7 ?l7 ?c7 ?k7 ?a8 ?l8 ?c8 ?k8 ?a9 ?i9 ?l9 ?c9 ?k9 ?a10 ?i10 ?l10 ?c10 ?k10 ?a11 ?i11 ?l11 ?c11 ?k11 ?a12 ?i12 ?l12 ?c12 ?k12 ?a13 ?i13 ?l13 ?c13 ?k13 ?a14 ?i14 ?l14 ?c14 ?k14 ?a15 ?i15 ?l15 ?c15 ?k15 ?a16 ?l16 ?c16 ?k16 ?a17 ?l17 ?c17 ?k17 ?a18 ?l18 ?c18 ?k18 ?a19 ?l19 ?c19 ?k19 ?a20 ?l20 ?c20 ?k20 ?a21 ?l21 ?c21 ?k21 ?a22 ?l22 ?c22 ?k22 ?a23 ?l23 ?c23 ?k23 ?a24 ?l24 ?c24 ?k24 ?a25 ?l25 ?c25 ?k25 ?a26 ?l26 ?c26 ?k26 ?a27 ?l27 ?c27 ?k27 ?a28 ?l28 ?c28 ?k28 ?a29 ?l29 ?c29 ?k29 ?a30 ?l30 ?c30 ?k30 ?a31 ?l31 ?c31 ?k31 ?a32 ?l32 ?c32 ?k32 ?a33 ?l33 ?c33 ?k33 ?a34 ?l34 ?c34 ?k34 ?a35 ?l35 ?c35 ?k35 ?a36 ?l36 ?c36 ?k36 ?a37 ?l37 ?c37 ?k37 ?a38 ?l38 ?c38 ?k38 ?z_ValueError ?z_all ?z_bool ?z_enumerate ?z_int ?z_isinstance ?z_len ?z_max ?z_min ?z_range ?z_reversed ?z_str ?z_sum ?z_tuple ?z_zip ?c_LIMIT ?c_MOST_SIGNS ?c_MOST_NUMS ?c_MOST_LETTERS ?c_MOST_FIGURES ?c_MOST_PARTS ?c_MOST_DEPTH ?c_MOST_TERMS ?c_SIGNS ?c_LETTERS ?c_FIGURES ?c_PLACES ?c_QUOTE ?e_LeafError ?e_NoText ?xga_NoText ?xgt_NoText ?xca_NoText ?xsp_NoText ?xtk_NoText ?xmo_NoText ?xmb_NoText ?u_NoText_LeafError ?i_NoText_0 ?i_NoText_1 ?i_NoText_2 ?i_NoText_3 ?e_TooGreat ?xga_TooGreat ?xgt_TooGreat ?xca_TooGreat ?xsp_TooGreat ?xtk_TooGreat ?xmo_TooGreat ?xmb_TooGreat ?u_TooGreat_LeafError ?i_TooGreat_0 ?i_TooGreat_1 ?i_TooGreat_2 ?i_TooGreat_3 ?opg_NestReader ?ohd_NestReader ?opo_NestReader ?osa_NestReader ?omk_NestReader ?okc_NestReader ?n_rows ?n_open_words ?n_inner_counts ?n_closed ?c_NEEDS ?dl_NEEDS ?dk_NEEDS ?dv_NEEDS ?y_NEEDS ?q_NEEDS_0 ?q_NEEDS_1 ?q_NEEDS_2 ?q_NEEDS_3 ?q_NEEDS_4 ?q_NEEDS_5 ?q_NEEDS_6 ?q_NEEDS_7 ?q_NEEDS_8 ?q_NEEDS_9 ?q_NEEDS_10
      (case m_LeafError => k_is)
      (case m_NoText => k_is)
      (case m_TooGreat => k_is)
      (case m_NoName => k_is)
      (case m_NoRule => k_is)
      (case m_NoKind => k_is)
      (case m_NoTree => k_is)
      (case m_NoPlace => k_is)
      (case m_NoGiven => k_is)
      (case m_NoWalk => k_is)
      (case m_Ring => k_is)
      (case m_NestReader => k_is)
      (case a0 => k_is)
      (case l0 => k_is)
      (case c0 => k_is)
      (case k0 => k_is)
      (case a1 => k_is)
      (case l1 => k_is)
      (case c1 => k_is)
      (case k1 => k_is)
      (case a2 => k_is)
      (case l2 => k_is)
      (case c2 => k_is)
      (case k2 => k_is)
      (case a3 => k_is)
      (case l3 => k_is)
      (case c3 => k_is)
      (case k3 => k_is)
      (case a4 => k_is)
      (case l4 => k_is)
      (case c4 => k_is)
      (case k4 => k_is)
      (case a5 => k_is)
      (case l5 => k_is)
      (case c5 => k_is)
      (case k5 => k_is)
      (case a6 => k_is)
      (case l6 => k_is)
      (case c6 => k_is)
      (case k6 => k_is)
      (case a7 => k_is)
      (case l7 => k_is)
      (case c7 => k_is)
      (case k7 => k_is)
      (case a8 => k_is)
      (case l8 => k_is)
      (case c8 => k_is)
      (case k8 => k_is)
      (case a9 => k_is)
      (case i9 => k_is)
      (case l9 => k_is)
      (case c9 => k_is)
      (case k9 => k_is)
      (case a10 => k_is)
      (case i10 => k_is)
      (case l10 => k_is)
      (case c10 => k_is)
      (case k10 => k_is)
      (case a11 => k_is)
      (case i11 => k_is)
      (case l11 => k_is)
      (case c11 => k_is)
      (case k11 => k_is)
      (case a12 => k_is)
      (case i12 => k_is)
      (case l12 => k_is)
      (case c12 => k_is)
      (case k12 => k_is)
      (case a13 => k_is)
      (case i13 => k_is)
      (case l13 => k_is)
      (case c13 => k_is)
      (case k13 => k_is)
      (case a14 => k_is)
      (case i14 => k_is)
      (case l14 => k_is)
      (case c14 => k_is)
      (case k14 => k_is)
      (case a15 => k_is)
      (case i15 => k_is)
      (case l15 => k_is)
      (case c15 => k_is)
      (case k15 => k_is)
      (case a16 => k_is)
      (case l16 => k_is)
      (case c16 => k_is)
      (case k16 => k_is)
      (case a17 => k_is)
      (case l17 => k_is)
      (case c17 => k_is)
      (case k17 => k_is)
      (case a18 => k_is)
      (case l18 => k_is)
      (case c18 => k_is)
      (case k18 => k_is)
      (case a19 => k_is)
      (case l19 => k_is)
      (case c19 => k_is)
      (case k19 => k_is)
      (case a20 => k_is)
      (case l20 => k_is)
      (case c20 => k_is)
      (case k20 => k_is)
      (case a21 => k_is)
      (case l21 => k_is)
      (case c21 => k_is)
      (case k21 => k_is)
      (case a22 => k_is)
      (case l22 => k_is)
      (case c22 => k_is)
      (case k22 => k_is)
      (case a23 => k_is)
      (case l23 => k_is)
      (case c23 => k_is)
      (case k23 => k_is)
      (case a24 => k_is)
      (case l24 => k_is)
      (case c24 => k_is)
      (case k24 => k_is)
      (case a25 => k_is)
      (case l25 => k_is)
      (case c25 => k_is)
      (case k25 => k_is)
      (case a26 => k_is)
      (case l26 => k_is)
      (case c26 => k_is)
      (case k26 => k_is)
      (case a27 => k_is)
      (case l27 => k_is)
      (case c27 => k_is)
      (case k27 => k_is)
      (case a28 => k_is)
      (case l28 => k_is)
      (case c28 => k_is)
      (case k28 => k_is)
      (case a29 => k_is)
      (case l29 => k_is)
      (case c29 => k_is)
      (case k29 => k_is)
      (case a30 => k_is)
      (case l30 => k_is)
      (case c30 => k_is)
      (case k30 => k_is)
      (case a31 => k_is)
      (case l31 => k_is)
      (case c31 => k_is)
      (case k31 => k_is)
      (case a32 => k_is)
      (case l32 => k_is)
      (case c32 => k_is)
      (case k32 => k_is)
      (case a33 => k_is)
      (case l33 => k_is)
      (case c33 => k_is)
      (case k33 => k_is)
      (case a34 => k_is)
      (case l34 => k_is)
      (case c34 => k_is)
      (case k34 => k_is)
      (case a35 => k_is)
      (case l35 => k_is)
      (case c35 => k_is)
      (case k35 => k_is)
      (case a36 => k_is)
      (case l36 => k_is)
      (case c36 => k_is)
      (case k36 => k_is)
      (case a37 => k_is)
      (case l37 => k_is)
      (case c37 => k_is)
      (case k37 => k_is)
      (case a38 => k_is)
      (case l38 => k_is)
      (case c38 => k_is)
      (case k38 => k_is)
      (case z_ValueError => k_is)
      (case z_all => k_is)
      (case z_bool => k_is)
      (case z_enumerate => k_is)
      (case z_int => k_is)
      (case z_isinstance => k_is)
      (case z_len => k_is)
      (case z_max => k_is)
      (case z_min => k_is)
      (case z_range => k_is)
      (case z_reversed => k_is)
      (case z_str => k_is)
      (case z_sum => k_is)
      (case z_tuple => k_is)
      (case z_zip => k_is)
      (case c_LIMIT => k_is)
      (case c_MOST_SIGNS => k_is)
      (case c_MOST_NUMS => k_is)
      (case c_MOST_LETTERS => k_is)
      (case c_MOST_FIGURES => k_is)
      (case c_MOST_PARTS => k_is)
      (case c_MOST_DEPTH => k_is)
      (case c_MOST_TERMS => k_is)
      (case c_SIGNS => k_is)
      (case c_LETTERS => k_is)
      (case c_FIGURES => k_is)
      (case c_PLACES => k_is)
      (case c_QUOTE => k_is)
      (case e_LeafError => k_exc)
      (case e_NoText => k_exc)
      (case xga_NoText => k_is)
      (case xgt_NoText => k_is)
      (case xca_NoText => k_is)
      (case xsp_NoText => k_is)
      (case xtk_NoText => k_is)
      (case xmo_NoText => k_is)
      (case xmb_NoText => k_is)
      (case u_NoText_LeafError => k_is)
      (case i_NoText_0 => kit_is)
      (case i_NoText_1 => kit_is)
      (case i_NoText_2 => kit_is)
      (case i_NoText_3 => kit_is)
      (case e_TooGreat => k_exc)
      (case xga_TooGreat => k_is)
      (case xgt_TooGreat => k_is)
      (case xca_TooGreat => k_is)
      (case xsp_TooGreat => k_is)
      (case xtk_TooGreat => k_is)
      (case xmo_TooGreat => k_is)
      (case xmb_TooGreat => k_is)
      (case u_TooGreat_LeafError => k_is)
      (case i_TooGreat_0 => kit_is)
      (case i_TooGreat_1 => kit_is)
      (case i_TooGreat_2 => kit_is)
      (case i_TooGreat_3 => kit_is)
      (case opg_NestReader => k_is)
      (case ohd_NestReader => k_is)
      (case opo_NestReader => k_is)
      (case osa_NestReader => k_is)
      (case omk_NestReader => k_is)
      (case okc_NestReader => k_is)
      (case n_rows => k_is)
      (case n_open_words => k_is)
      (case n_inner_counts => k_is)
      (case n_closed => k_is)
      (case c_NEEDS => k_is)
      (case dl_NEEDS => k_is)
      (case dk_NEEDS => k_keys)
      (case dv_NEEDS => rfl)
      (case y_NEEDS => decide)
      (case q_NEEDS_0 => k_is)
      (case q_NEEDS_1 => k_is)
      (case q_NEEDS_2 => k_is)
      (case q_NEEDS_3 => k_is)
      (case q_NEEDS_4 => k_is)
      (case q_NEEDS_5 => k_is)
      (case q_NEEDS_6 => k_is)
      (case q_NEEDS_7 => k_is)
      (case q_NEEDS_8 => k_is)
      (case q_NEEDS_9 => k_is)
      (case q_NEEDS_10 => k_is)
    obtain ⟨T, TX⟩ := T
    have e0 := hmg.symm.trans TX.m_law
    cases e0
    obtain ⟨oc, od, kV, doc, pm, an, cdv, ct, osl, efd, _, _⟩ := TX.F_law.ex
    refine ⟨T.d_law, fun s u => ?_, fun base _ _ => K07.ok_law TX⟩
    rw [efd]
    exact .of_eq rfl
