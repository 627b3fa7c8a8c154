import PyProof.Rows.All
import Wide.All
import OpenK.AllK
import Wide.FinOn
import Lean
import PyProof.EqAt
import PyProof.EqKinds
import PyProof.TupleCall
import PyProof.NeKinds
import PyProof.FitsReplace
import PyProof.Rows.SumAny
import PyProof.Rows.MinMaxN
import PyProof.Rows.CallKwBuiltin
import PyProof.StrBlock2
import KE.KMinKey
import OpenK.KOwn
import PyProof.ExcArgsOwn
import KE.KIsAll
import PyProof.ReprRoads
import PyProof.ReprBulk
import PyProof.StrWalks
import PyProof.ConsumeWalk
import PyProof.StrCalls2
import PyProof.StrLawsIdx
import PySem.Challenge.RW_leafsay_k03_kinds_told
set_option Elab.async false
set_option linter.all false
set_option maxRecDepth 100000
/-! THE HAND LAYER, for ints, bools, texts, own classes, LISTS and tuples (index, slices, in, append, pop ..), calls, loops. Paste it whole ahead of your own text; what your proof does not reach may be deleted. -/
namespace L2
open PySem PySem.Spec PyProof.Rows

/-- a key: an int or a str -/
abbrev Key := Sum Int Str
def keyIs : Key → Value → Bool
  | .inl k, v => Value.isInt k v
  | .inr x, v => Value.isStrOf x v
def keyH (w : World) : Key → Int
  | .inl k => hashInt k
  | .inr x => hashStr w x
theorem keyIs_shape : ∀ {k : Key} {v : Value}, keyIs k v = true → (∃ i t, k = Sum.inl i ∧ v = Value.int i t) ∨ (∃ x t, k = Sum.inr x ∧ v = Value.str x t)
  | .inl i, v, h => by
    obtain ⟨t, e⟩ := Value.isInt_shape (k := i) (v := v) h
    exact .inl ⟨i, t, rfl, e⟩
  | .inr x, v, h => by
    obtain ⟨t, e⟩ := Value.isStrOf_shape (x := x) (v := v) h
    exact .inr ⟨x, t, rfl, e⟩
theorem keyIs_int (i : Int) (t : Tok) : keyIs (.inl i) (.int i t) = true := by simp [keyIs, Value.isInt]
theorem keyIs_str (x : Str) (t : Tok) : keyIs (.inr x) (.str x t) = true := by simp [keyIs, Value.isStrOf]
theorem key_ll (a b : Int) : decide ((Sum.inl a : Key) = Sum.inl b) = (a == b) := by
  by_cases e : a = b
  · subst e; simp
  · have h : ¬ (Sum.inl a : Key) = Sum.inl b := fun q => e (Sum.inl.inj q)
    rw [decide_eq_false h]
    exact (beq_eq_false_iff_ne.mpr e).symm
theorem key_rr (a b : Str) : decide ((Sum.inr a : Key) = Sum.inr b) = decide (a = b) := by
  by_cases e : a = b
  · subst e; simp
  · have h : ¬ (Sum.inr a : Key) = Sum.inr b := fun q => e (Sum.inr.inj q)
    rw [decide_eq_false h, decide_eq_false e]
theorem key_lr (a : Int) (b : Str) : decide ((Sum.inl a : Key) = Sum.inr b) = false := decide_eq_false (fun q => nomatch q)
theorem key_rl (a : Str) (b : Int) : decide ((Sum.inr a : Key) = Sum.inl b) = false := decide_eq_false (fun q => nomatch q)

def mixKind (prog : Program) (w : World) : PySem.KeyKind prog w Key where
  is := keyIs
  hash := keyH w
  inj := fun v a b ha hb => by
    rcases keyIs_shape ha with ⟨i, t, rfl, rfl⟩ | ⟨x, t, rfl, rfl⟩
    · rcases keyIs_shape hb with ⟨j, u, rfl, e⟩ | ⟨y, u, rfl, e⟩
      · injection e with e1 _; rw [e1]
      · exact nomatch e
    · rcases keyIs_shape hb with ⟨j, u, rfl, e⟩ | ⟨y, u, rfl, e⟩
      · exact nomatch e
      · injection e with e1 _; rw [e1]
  byValue := fun k v h => by
    rcases keyIs_shape h with ⟨i, t, rfl, rfl⟩ | ⟨x, t, rfl, rfl⟩ <;> rfl
  pyHash := fun hv h => by
    rcases keyIs_shape hv with ⟨i, t, rfl, rfl⟩ | ⟨x, t, rfl, rfl⟩
    · exact wpAny_pyHash_int h
    · exact wpAny_pyHash_str h
  eqBool := fun hu hv h => by
    rcases keyIs_shape hu with ⟨i, t, rfl, rfl⟩ | ⟨x, t, rfl, rfl⟩
    · rcases keyIs_shape hv with ⟨j, u, rfl, rfl⟩ | ⟨y, u, rfl, rfl⟩
      · rw [key_ll] at h; exact wpAny_eqBool_int h
      · rw [key_lr] at h; exact SeqAt.EqAt.int_str i t y u _ _ _ _ h
    · rcases keyIs_shape hv with ⟨j, u, rfl, rfl⟩ | ⟨y, u, rfl, rfl⟩
      · rw [key_rl] at h; exact SeqAt.EqAt.str_int x t j u _ _ _ _ h
      · rw [key_rr] at h; exact wpAny_eqBool_str h
  «strs» := fun k x t v h => by
    rcases keyIs_shape h with ⟨i, u, rfl, e⟩ | ⟨y, u, rfl, e⟩
    · exact nomatch e
    · injection e with e1 _
      subst e1
      cases v <;> rfl

theorem mixKind_is (prog : Program) (w : World) (k : Key) (v : Value) : (mixKind prog w).is k v = keyIs k v := rfl
theorem mixKind_int (prog : Program) (w : World) (i : Int) (t : Tok) : (mixKind prog w).is (.inl i) (.int i t) = true := keyIs_int i t
theorem mixKind_str (prog : Program) (w : World) (x : Str) (t : Tok) : (mixKind prog w).is (.inr x) (.str x t) = true := keyIs_str x t
end L2

namespace L2
open PySem PySem.Spec PyProof.Rows

/-- a value, without the heap -/
inductive V where
  | non | bl (b : Bool) | int (i : Int) | str (x : Str) | byt (b : Array UInt8) | flt (b : UInt64) | ref (a : Addr) | ty (n : String)
  deriving DecidableEq

def RelV : V → Value → Prop
  | .non, u => u = Value.none
  | .bl b, u => u = Value.bool b
  | .int i, u => ∃ t, u = Value.int i t
  | .str x, u => ∃ t, u = Value.str x t
  | .byt b, u => ∃ t, u = Value.bytes b t
  | .flt b, u => ∃ t, u = Value.float b t
  | .ref a, u => u = Value.ref a
  | .ty n, u => u = Value.type n

abbrev Vals : List V → List Value → Prop := Paired RelV
theorem Vals.length {xs : List V} {us : List Value} (r : Vals xs us) : xs.length = us.length := Paired.length r
theorem Vals.get : ∀ {xs : List V} {us : List Value} {i : Nat} {x : V}, Vals xs us → xs[i]? = some x → ∃ u, us[i]? = some u ∧ RelV x u
  | _, _, _, _, .nil, e => by simp at e
  | _, _, 0, _, .cons r _, e => by simp at e; subst e; exact ⟨_, rfl, r⟩
  | _, _, i + 1, x, .cons _ t, e => by
    obtain ⟨u, h1, h2⟩ := Vals.get (i := i) (x := x) t (by simpa using e)
    exact ⟨u, by simpa using h1, h2⟩
theorem Vals.set {x : V} {u : Value} (r : RelV x u) : ∀ {xs : List V} {us : List Value} (i : Nat), Vals xs us → Vals (xs.set i x) (us.set i u)
  | _, _, _, .nil => .nil
  | _, _, 0, .cons _ t => .cons r t
  | _, _, i + 1, .cons q t => .cons q (Vals.set r i t)
theorem Vals.append : ∀ {xs ys : List V} {us ws : List Value}, Vals xs us → Vals ys ws → Vals (xs ++ ys) (us ++ ws)
  | _, _, _, _, .nil, s => s
  | _, _, _, _, .cons r t, s => .cons r (Vals.append t s)
theorem Vals.take : ∀ {xs : List V} {us : List Value} (n : Nat), Vals xs us → Vals (xs.take n) (us.take n)
  | _, _, 0, _ => .nil
  | _, _, _ + 1, .nil => .nil
  | _, _, n + 1, .cons r t => .cons r (Vals.take n t)
theorem Vals.drop : ∀ {xs : List V} {us : List Value} (n : Nat), Vals xs us → Vals (xs.drop n) (us.drop n)
  | _, _, 0, r => r
  | _, _, _ + 1, .nil => .nil
  | _, _, n + 1, .cons _ t => Vals.drop n t
theorem Vals.none_of : ∀ {xs : List V} {us : List Value} {i : Nat}, Vals xs us → xs[i]? = none → us[i]? = none := fun {xs us i} r e => by
  have h1 := r.length
  have h2 : xs.length ≤ i := List.getElem?_eq_none_iff.mp e
  exact List.getElem?_eq_none_iff.mpr (by omega)

def RelO : Option V → Option Value → Prop
  | some v, some u => RelV v u
  | none, none => True
  | _, _ => False
def KV {κ : Type} : List (κ × V) → List (κ × Value) → Prop := Paired fun (p : κ × V) (q : κ × Value) => p.1 = q.1 ∧ RelV p.2 q.2

/-- a key of a dict (00_mix): an int or a text -/
def kV : Key → V
  | .inl i => .int i
  | .inr x => .str x

/-- what stands at a tracked address -/
inductive HO where
  /-- a list -/
  | lst (xs : List V)
  /-- a tuple (never changes) -/
  | tup (xs : List V)
  /-- a dict whose keys are ints and texts; one whose keys are tuples of ints and texts (the empty one is both) -/
  | dK (kvs : List (Key × V)) | dT (kvs : List (List Key × V))
  /-- a set of ints: its members, its size -/
  | set (S : Int → Bool) (n : Nat)
  /-- an instance of the class at C, its dict at dx, its attributes -/
  | ins (C dx : Addr) (fs : List (Str × V))
  /-- the dict of the instance at x -/
  | own (x : Addr)
  /-- the dict of an exception -/
  | xd (fs : List (Str × V))
  /-- a bound method, f of x -/
  | met (f x : Addr)
  /-- a range object lo, lo + 1, .. below hi -/
  | rng (lo hi : Int)
  /-- a thing that is known to the object (the script; a dict while a loop walks it): read, never written while it is so -/
  | frz (o : Obj) (u : HO)
  /-- a code object's table -/
  | tbl (ps : Array Value)
  /-- any other thing, by what is true of its one object (a def of one's own: SetO a S n := HO.ext fun h => ..) -/
  | ext (φ : Heap → Prop)

abbrev Hp := Addr → Option HO
def upd (H : Hp) (a : Addr) (o : HO) : Hp := fun b => if b = a then some o else H b
theorem upd_same {H : Hp} {a : Addr} {o : HO} : upd H a o a = some o := by unfold upd; rw [if_pos rfl]
theorem upd_ne {H : Hp} {a b : Addr} {o : HO} (h : b ≠ a) : upd H a o b = H b := by unfold upd; rw [if_neg h]
theorem upd_upd {H : Hp} {a : Addr} {o u : HO} : upd (upd H a o) a u = upd H a u := by
  funext b; unfold upd; split <;> rfl
/-- two objects of different content stand apart -/
theorem ne_of {H : Hp} {a b : Addr} {o u : HO} (h : H a = some o) (h' : H b = some u) (d : o ≠ u) : a ≠ b := by
  intro e; subst e; rw [h] at h'; exact d (Option.some.inj h')
theorem ne_of_none {H : Hp} {a b : Addr} {o : HO} (h : H a = some o) (h' : H b = none) : a ≠ b := by
  intro e; subst e; rw [h] at h'; cases h'

section
variable (P : Program) (w : World)
def ObjOk (H : Hp) (h : Heap) (a : Addr) : HO → Prop
  | .lst xs => xs.length ≤ sizeLine ∧ ∃ (its : List Value) (n : Nat), Vals xs its ∧ h.get? a = some { cls := .type "list", data := .seq its.toArray n }
  | .tup xs => xs.length ≤ sizeLine ∧ ∃ its : List Value, Vals xs its ∧ IsTup h a its.toArray
  | .dK kvs => kvs.length ≤ sizeLine ∧ (a == sysModules) = false ∧ ∃ vs, KV kvs vs ∧ h.DictOf (mixKind P w) a vs
  | .dT kvs => kvs.length ≤ sizeLine ∧ (a == sysModules) = false ∧ ∃ xs : List (List Key × Addr × Value),
      Paired (fun (p : List Key × V) (q : List Key × Addr × Value) => p.1 = q.1 ∧ H q.2.1 = some (.tup (p.1.map kV)) ∧ RelV p.2 q.2.2) kvs xs ∧
      ∃ o es ep, h.get? a = some o ∧ o.ExactDict ∧ o.data = .dict es ep ∧ es.toList = xs.map (entryOfKey (tupleKind (mixKind P w))) ∧ (xs.map (·.1)).Nodup
  | .set S n => h.SetOf (intKind P w) a S n
  | .ins C dx fs => H dx = some (.own a) ∧ fs.length ≤ 1000 ∧ dx ≠ a ∧ h.get? a = some (PySem.W.instObj C dx) ∧
      ∃ mA, h.Ns1 dx mA ∧ (∀ f, RelO (fs.lookup f) (mA f)) ∧ PySem.Within mA (fs.map (·.1))
  | .own _ => ∃ o, h.get? a = some o
  | .xd fs => ∃ mA, h.Ns1 a mA ∧ ∀ f, RelO (fs.lookup f) (mA f)
  | .rng lo hi => ∃ t u v, h.get? a = some { cls := .type "range", data := .fields #[.int lo t, .int hi u, .int 1 v] }
  | .frz o u => h.get? a = some o ∧ ObjOk H h a u
  | .tbl ps => h.get? a = some { cls := .none, data := .fields ps }
  | .met f x => h.get? a = some (PySem.W.methodObj (.ref f) (.ref x))
  | .ext φ => φ h ∧ (∃ o, h.get? a = some o) ∧ ∀ h1 h2 : Heap, φ h1 → (∀ o, h1.get? a = some o → h2.get? a = some o) → φ h2
/-- the abstract heap is held -/
def HOk (H : Hp) (h : Heap) : Prop := ∀ a o, H a = some o → ObjOk P w H h a o
end

section
variable {P : Program} {w : World} {H H' : Hp} {h h' : Heap} {a : Addr} {o : HO}
theorem ObjOk.lt (x : ObjOk P w H h a o) : a < h.objs.size := by
  cases o with
  | lst xs => obtain ⟨_, _, _, _, e⟩ := x; exact Heap.lt_size e
  | tup xs => obtain ⟨_, _, _, p⟩ := x; exact p.lt
  | dK kvs => obtain ⟨_, _, _, _, o, _, _, e, _⟩ := x; exact Heap.lt_size e
  | dT kvs => obtain ⟨_, _, _, _, o, _, _, e, _⟩ := x; exact Heap.lt_size e
  | set S n => obtain ⟨o, _, _, _, e, _⟩ := x; exact Heap.lt_size e
  | ins C dx fs => obtain ⟨_, _, _, e, _⟩ := x; exact Heap.lt_size e
  | own y => obtain ⟨_, e⟩ := x; exact Heap.lt_size e
  | xd fs => obtain ⟨_, ⟨_, _, _, e, _⟩, _⟩ := x; exact Heap.lt_size e
  | rng lo hi => obtain ⟨_, _, _, e⟩ := x; exact Heap.lt_size e
  | frz ob u => obtain ⟨e, _⟩ := x; exact Heap.lt_size e
  | tbl ps => exact Heap.lt_size (show h.get? a = some _ from x)
  | met f y => exact Heap.lt_size (show h.get? a = some _ from x)
  | ext φ => obtain ⟨_, ⟨_, e⟩, _⟩ := x; exact Heap.lt_size e
theorem Paired.mapP {α β : Type} {F G : α → β → Prop} : ∀ {l₁ : List α} {l₂ : List β}, Paired F l₁ l₂ → (∀ a b, F a b → G a b) → Paired G l₁ l₂
  | _, _, .nil, _ => .nil
  | _, _, .cons r t, f => .cons (f _ _ r) (Paired.mapP t f)
theorem Paired.imp' {α β : Type} {F G : α → β → Prop} (f : ∀ a b, F a b → G a b) {l₁ : List α} {l₂ : List β} (r : Paired F l₁ l₂) : Paired G l₁ l₂ := Paired.mapP r f
/-- what an object's description leans on: its own object, its own dict, the tuples -/
theorem ObjOk.stay (x : ObjOk P w H h a o) (k : ∀ b u, (b = a ∨ H b = some (.own a)) → h.get? b = some u → h'.get? b = some u)
    (ho : ∀ b, H b = some (.own a) → H' b = some (.own a)) (ht : ∀ b xs, H b = some (.tup xs) → H' b = some (.tup xs)) : ObjOk P w H' h' a o := by
  induction o with
  | lst xs => obtain ⟨z, its, n, r, e⟩ := x; exact ⟨z, its, n, r, k _ _ (.inl rfl) e⟩
  | tup xs => obtain ⟨z, its, r, ob, e, c⟩ := x; exact ⟨z, its, r, ob, k _ _ (.inl rfl) e, c⟩
  | dK kvs => obtain ⟨z, y, vs, r, ob, es, ep, e, c⟩ := x; exact ⟨z, y, vs, r, ob, es, ep, k _ _ (.inl rfl) e, c⟩
  | dT kvs =>
    obtain ⟨z, y, xs, r, ob, es, ep, e, c⟩ := x
    exact ⟨z, y, xs, Paired.mapP r fun p q z => ⟨z.1, ht _ _ z.2.1, z.2.2⟩, ob, es, ep, k _ _ (.inl rfl) e, c⟩
  | set S n => obtain ⟨ob, es, ep, t, e, c⟩ := x; exact ⟨ob, es, ep, t, k _ _ (.inl rfl) e, c⟩
  | ins C dx fs =>
    obtain ⟨d, z, ne, e, mA, ⟨od, es, ep, e2, c⟩, r⟩ := x
    exact ⟨ho _ d, z, ne, k _ _ (.inl rfl) e, mA, ⟨od, es, ep, k _ _ (.inr d) e2, c⟩, r⟩
  | own y => obtain ⟨ob, e⟩ := x; exact ⟨ob, k _ _ (.inl rfl) e⟩
  | xd fs => obtain ⟨mA, ⟨od, es, ep, e, c⟩, r⟩ := x; exact ⟨mA, ⟨od, es, ep, k _ _ (.inl rfl) e, c⟩, r⟩
  | rng lo hi => obtain ⟨t, u, v, e⟩ := x; exact ⟨t, u, v, k _ _ (.inl rfl) e⟩
  | frz ob u ih => obtain ⟨e, q⟩ := x; exact ⟨k _ _ (.inl rfl) e, ih q⟩
  | tbl ps =>
    have e : h.get? a = some { cls := .none, data := .fields ps } := x
    show h'.get? a = some { cls := .none, data := .fields ps }
    exact k a _ (.inl rfl) e
  | met f y =>
    have e : h.get? a = some (PySem.W.methodObj (.ref f) (.ref y)) := x
    show h'.get? a = some (PySem.W.methodObj (.ref f) (.ref y))
    exact k a _ (.inl rfl) e
  | ext φ => obtain ⟨p, ⟨o, e⟩, st⟩ := x; exact ⟨st _ _ p fun o q => k _ _ (.inl rfl) q, ⟨o, k _ _ (.inl rfl) e⟩, st⟩
theorem HOk.lt (x : HOk P w H h) (e : H a = some o) : a < h.objs.size := (x a o e).lt
theorem HOk.fresh (x : HOk P w H h) (e : h.objs.size ≤ a) : H a = none := by
  cases q : H a with
  | none => rfl
  | some u => exact absurd (Nat.lt_of_lt_of_le (x.lt q) e) (Nat.lt_irrefl _)
/-- every object of the heap is kept -/
theorem HOk.kept (x : HOk P w H h) (k : ∀ b u, h.get? b = some u → h'.get? b = some u) : HOk P w H h' := fun a o e =>
  (x a o e).stay (fun b u _ q => k b u q) (fun _ q => q) fun _ _ q => q
/-- a new object is laid and tracked -/
theorem HOk.laid (x : HOk P w H h) (k : ∀ b u, h.get? b = some u → h'.get? b = some u) (hp : h.objs.size ≤ a) (new : ObjOk P w (upd H a o) h' a o) : HOk P w (upd H a o) h' := fun b u e => by
  have hn := x.fresh hp
  by_cases hb : b = a
  · subst hb; rw [upd_same] at e; cases e; exact new
  · rw [upd_ne hb] at e
    exact (x b u e).stay (fun c v _ q => k c v q) (fun c q => by rw [upd_ne (ne_of_none q hn)]; exact q) fun c xs q => by rw [upd_ne (ne_of_none q hn)]; exact q
end

/-- what may be read as u: it is u, or a known u -/
def Rd (H : Hp) (a : Addr) (u : HO) : Prop := H a = some u ∨ ∃ o, H a = some (.frz o u)
theorem Rd.of {H : Hp} {a : Addr} {u : HO} (h : H a = some u) : Rd H a u := .inl h
theorem Rd.ok {P : Program} {w : World} {H : Hp} {h : Heap} {a : Addr} {u : HO} (r : Rd H a u) (x : HOk P w H h) : ObjOk P w H h a u := by
  rcases r with r | ⟨o, r⟩
  · exact x a u r
  · obtain ⟨_, q⟩ := x a _ r
    exact q
/-- what may be written -/
def Mut : Option HO → Prop
  | some (.lst _) => True
  | some (.dK _) => True
  | some (.dT _) => True
  | some (.set _ _) => True
  | some (.ins _ _ _) => True
  | some (.ext _) => True
  | _ => False
section
variable {P : Program} {w : World} {H : Hp} {h h' : Heap} {x e : Addr} {o' : HO}
/-- the object at e is changed: x itself, or the dict of the instance x -/
theorem HOk.write (ok : HOk P w H h) (mu : Mut (H x)) (he : e = x ∨ H e = some (.own x)) (k : ∀ b u, b ≠ e → h.get? b = some u → h'.get? b = some u) (heo : ∃ u, h'.get? e = some u)
    (new : ObjOk P w (upd H x o') h' x o') : HOk P w (upd H x o') h' := fun b u q => by
  have nown : ∀ c y, H c = some (.own y) → c ≠ x := fun c y r z => by subst z; rw [r] at mu; exact mu
  have ntup : ∀ c xs, H c = some (.tup xs) → c ≠ x := fun c xs r z => by subst z; rw [r] at mu; exact mu
  by_cases hb : b = x
  · subst hb; rw [upd_same] at q; cases q; exact new
  · rw [upd_ne hb] at q
    by_cases hbe : b = e
    · have q' : H b = some (.own x) := by
        rcases he with z | z
        · exact absurd (hbe.trans z) hb
        · rw [hbe]; exact z
      rw [q] at q'; cases q'
      obtain ⟨v, hv⟩ := heo
      exact ⟨v, by rw [hbe]; exact hv⟩
    · refine (ok b u q).stay (fun c v hc r => k c v ?_ r) (fun c r => by rw [upd_ne (nown c b r)]; exact r) fun c xs r => by rw [upd_ne (ntup c xs r)]; exact r
      rcases hc with rfl | hc
      · exact hbe
      · rintro rfl
        rcases he with z | z
        · exact nown c b hc z
        · rw [hc] at z; cases z; exact hb rfl
end

/-! ### kept unless tracked; of the frames at fs (the callers') the slots may change (an exception that passes writes there); of the records at ex (iterators) nothing is said -/
structure Un (fs ex : List Addr) (H H' : Hp) (h h' : Heap) : Prop where
  keep : ∀ b o, h.get? b = some o → H b = none → b ∉ fs → b ∉ ex → h'.get? b = some o
  slot : ∀ b o, h.get? b = some o → H b = none → b ∈ fs → b ∉ ex → ∃ sl, h'.get? b = some { o with slots := sl }
  free : ∀ b o, h.get? b = some o → H b = none → b ∉ ex → H' b = none
  there : ∀ b o, h.get? b = some o → b ∉ ex → ∃ o', h'.get? b = some o'
  tups : ∀ b xs, H b = some (.tup xs) → H' b = some (.tup xs)
  frzs : ∀ b o u, H b = some (.frz o u) → H' b = some (.frz o u)
  tbls : ∀ b ps, H b = some (.tbl ps) → ∃ more, H' b = some (.tbl (ps ++ more))
section
variable {fs fs' ex ex' : List Addr} {H H1 H2 : Hp} {h h1 h2 h' : Heap} {a x e : Addr} {o : HO}
theorem Un.any (u : Un fs ex H H1 h h1) {b : Addr} {ob : Obj} (q : h.get? b = some ob) (n : H b = none) (hx : b ∉ ex) : ∃ sl, h1.get? b = some { ob with slots := sl } := by
  by_cases hb : b ∈ fs
  · exact u.slot b ob q n hb hx
  · exact ⟨ob.slots, u.keep b ob q n hb hx⟩
theorem Un.trans (a : Un fs ex H H1 h h1) (b : Un fs ex H1 H2 h1 h2) : Un fs ex H H2 h h2 where
  keep := fun c ob q n hc hx => b.keep c ob (a.keep c ob q n hc hx) (a.free c ob q n hx) hc hx
  slot := fun c ob q n hc hx => by
    obtain ⟨sl, e1⟩ := a.slot c ob q n hc hx
    obtain ⟨sl', e2⟩ := b.slot c _ e1 (a.free c ob q n hx) hc hx
    exact ⟨sl', e2⟩
  free := fun c ob q n hx => by
    obtain ⟨o', e1⟩ := a.there c ob q hx
    exact b.free c o' e1 (a.free c ob q n hx) hx
  there := fun c ob q hx => by
    obtain ⟨o', e1⟩ := a.there c ob q hx
    exact b.there c o' e1 hx
  tups := fun c xs q => b.tups c xs (a.tups c xs q)
  frzs := fun c ob xs q => b.frzs c ob xs (a.frzs c ob xs q)
  tbls := fun c ps q => by
    obtain ⟨m1, e1⟩ := a.tbls c ps q
    obtain ⟨m2, e2⟩ := b.tbls c _ e1
    exact ⟨m1 ++ m2, by rw [e2, Array.append_assoc]⟩
theorem Un.kept (k : ∀ b u, h.get? b = some u → h'.get? b = some u) : Un fs ex H H h h' :=
  ⟨fun b ob q _ _ _ => k b ob q, fun b ob q _ _ _ => ⟨ob.slots, k b ob q⟩, fun _ _ _ n _ => n, fun b ob q _ => ⟨ob, k b ob q⟩, fun _ _ q => q, fun _ _ _ q => q, fun _ ps q => ⟨#[], by rw [q]; simp⟩⟩
theorem Un.refl : Un fs ex H H h h := Un.kept fun _ _ q => q
theorem Un.laid (k : ∀ b u, h.get? b = some u → h'.get? b = some u) (hp : h.objs.size ≤ a) (hn : H a = none) : Un fs ex H (upd H a o) h h' where
  keep := fun b u q _ _ _ => k b u q
  slot := fun b u q _ _ _ => ⟨u.slots, k b u q⟩
  free := fun b u q n _ => by rw [upd_ne (Nat.ne_of_lt (Nat.lt_of_lt_of_le (Heap.lt_size q) hp))]; exact n
  there := fun b u q _ => ⟨u, k b u q⟩
  tups := fun b xs q => by rw [upd_ne (ne_of_none q hn)]; exact q
  frzs := fun b u xs q => by rw [upd_ne (ne_of_none q hn)]; exact q
  tbls := fun b ps q => ⟨#[], by rw [upd_ne (ne_of_none q hn), q]; simp⟩
theorem Un.write (mu : Mut (H x)) (he : e = x ∨ H e = some (.own x)) (k : ∀ b u, b ≠ e → h.get? b = some u → h'.get? b = some u) (heo : ∃ u, h'.get? e = some u) : Un fs ex H (upd H x o) h h' := by
  have hx : ∀ b, H b = none → b ≠ x := fun b n z => by subst z; rw [n] at mu; exact mu
  have hb : ∀ b, H b = none → b ≠ e := fun b n z => by
    subst z
    rcases he with r | r
    · exact hx b n r
    · rw [n] at r; cases r
  have hm : ∀ b u, H b = some u → ¬ Mut (some u) → b ≠ x := fun b u q nm z => by subst z; rw [q] at mu; exact nm mu
  refine ⟨fun b u q n _ _ => k b u (hb b n) q, fun b u q n _ _ => ⟨u.slots, k b u (hb b n) q⟩, fun b u q n _ => by rw [upd_ne (hx b n)]; exact n, fun b u q _ => ?_,
    fun b xs q => by rw [upd_ne (hm b _ q fun z => z)]; exact q, fun b u xs q => by rw [upd_ne (hm b _ q fun z => z)]; exact q, fun b ps q => ⟨#[], by rw [upd_ne (hm b _ q fun z => z), q]; simp⟩⟩
  by_cases hbe : b = e
  · subst hbe; exact heo
  · exact ⟨u, k b u hbe q⟩
theorem Un.mono (u : Un fs ex H H1 h h1) (hs : ∀ b ∈ fs, b ∈ fs') (hx : ∀ b ∈ ex, b ∈ ex') : Un fs' ex' H H1 h h1 :=
  ⟨fun b ob q n hb he => u.keep b ob q n (fun z => hb (hs b z)) fun z => he (hx b z), fun _ _ q n _ he => u.any q n fun z => he (hx _ z), fun b ob q n he => u.free b ob q n fun z => he (hx b z), fun b ob q he => u.there b ob q fun z => he (hx b z), u.tups, u.frzs, u.tbls⟩
end

/-! ### the heap without what is tracked -/
def trk (h : Heap) (H : Hp) : List Addr := (List.range h.objs.size).filter fun a => (H a).isSome
def hidT (h : Heap) (H : Hp) : Heap := PySem.W.hideAll h (trk h H)
theorem hidT_size (h : Heap) (H : Hp) : (hidT h H).objs.size = h.objs.size := PySem.W.hideAll_size _ _
theorem hidT_get {h : Heap} {H : Hp} {b : Addr} {o : Obj} (e : h.get? b = some o) (n : H b = none) : (hidT h H).get? b = some o :=
  PySem.W.hideAll_get _ e fun hm => by
    have q : (H b).isSome = true := (List.mem_filter.mp hm).2
    rw [n] at q; simp at q
theorem of_hidT {h : Heap} {H : Hp} {b : Addr} {o : Obj} (e : (hidT h H).get? b = some o) : h.get? b = some o ∧ H b = none := by
  have e' : h.get? b = some o := PySem.W.of_hideAll (trk h H) e
  refine ⟨e', ?_⟩
  cases q : H b with
  | none => rfl
  | some x =>
    have hm : b ∈ trk h H := List.mem_filter.mpr ⟨List.mem_range.mpr (Heap.lt_size e'), by simp [q]⟩
    have z : (hidT h H).get? b = none := PySem.W.hideAll_none (trk h H) hm
    rw [z] at e; cases e

/-! ### OpenK's ledger, filled with every new object but one -/
def allNews (g h : Heap) (L : Addr) : List (Addr × Obj) := (List.range h.objs.size).filterMap fun a => if a = L ∨ (g.get? a).isSome = true then none else (h.get? a).map fun o => (a, o)
theorem mem_allNews {g h : Heap} {L a : Addr} {o : Obj} (h1 : a ≠ L) (h2 : g.get? a = none) (h3 : h.get? a = some o) : (a, o) ∈ allNews g h L :=
  List.mem_filterMap.mpr ⟨a, List.mem_range.mpr (Heap.lt_size h3), by simp [h1, h2, h3]⟩
theorem of_mem_allNews {g h : Heap} {L : Addr} {p : Addr × Obj} (hp : p ∈ allNews g h L) : p.1 ≠ L ∧ g.get? p.1 = none ∧ h.get? p.1 = some p.2 := by
  obtain ⟨b, _, e⟩ := List.mem_filterMap.mp hp
  split at e
  · cases e
  · rename_i hn
    cases q : h.get? b with
    | none => rw [q] at e; simp at e
    | some u =>
      rw [q] at e
      simp only [Option.map_some, Option.some.injEq] at e
      subst e
      refine ⟨fun z => hn (.inl z), ?_, q⟩
      show g.get? b = none
      cases r : g.get? b with
      | none => rfl
      | some v => exact (hn (.inr (by simp [r]))).elim
def rest (g h : Heap) (L d : Addr) : List (Addr × Obj) := (allNews g h L).filter fun p => decide (p.1 ≠ d)
theorem rest_ne {g h : Heap} {L d : Addr} : ∀ p ∈ rest g h L d, p.1 ≠ d := fun p hp => of_decide_eq_true (List.mem_filter.mp hp).2
theorem mem_rest {g h : Heap} {L d a : Addr} {o : Obj} (h1 : a ≠ L) (h2 : g.get? a = none) (h3 : h.get? a = some o) (h4 : a ≠ d) : (a, o) ∈ rest g h L d :=
  List.mem_filter.mpr ⟨mem_allNews h1 h2 h3, decide_eq_true h4⟩
theorem news_all {g h : Heap} {L : Addr} : News g L h (allNews g h L) := fun p hp => let ⟨a, b, c⟩ := of_mem_allNews hp; ⟨c, a, b⟩
theorem news_at {g h : Heap} {L d : Addr} {o : Obj} (h1 : d ≠ L) (h2 : g.get? d = none) (h3 : h.get? d = some o) : News g L h ((d, o) :: rest g h L d) := fun p hp => by
  rcases List.mem_cons.mp hp with rfl | hp
  · exact ⟨h3, h1, h2⟩
  · exact news_all p (List.mem_filter.mp hp).1
/-- behind a rule that changed d alone: all else but the frame is kept -/
theorem kept_of_news {g h h' : Heap} {L d : Addr} {m : Str → Option Value} (k : ∀ b o, g.get? b = some o → h.get? b = some o) (F : Fr g L h' m) (N : News g L h' (rest g h L d)) :
    ∀ b o, b ≠ L → b ≠ d → h.get? b = some o → h'.get? b = some o := fun b o h1 h2 e => by
  cases q : g.get? b with
  | some u =>
    have := k b u q
    rw [e] at this; cases this
    exact F.keep b _ q
  | none => exact (N (b, o) (mem_rest h1 q e h2)).1
end L2

namespace L2
open PySem PySem.Spec PyProof.Rows

/-- the module's facts, over the base: the heap at the law's entry without what is tracked there -/
structure Mod (K : PySem.W.Frag) (mg : Str → Option Value) (base : Heap) : Prop where
  kin : K.In base
  glob : base.Ns mainGlobals mg
  blt : ∃ mb, base.Ns builtinsNs mb ∧ ∀ x : Str, x ≠ "__name__" → mb x = bootBuiltins x
  nolimit : base.NoLimit

/-- the context: a def's body (or a comprehension's block) running. base: fixed through the whole law; s₀, H₀: the entry; outer: the frames whose slots others may change (a def's callers); stack: all frames that run;
   ex: iterators that were made ahead of the entry and are walked here (a comprehension's); fn: the names whose cells were made at the entry (a def: all; a comprehension's block: its own); calm: not within an except suite; pn: pins that every state bears; xe: what is wanted of an exception that leaves the code -/
structure Cx where
  prog : Program
  w : World
  K : PySem.W.Frag
  mg : Str → Option Value
  base : Heap
  A : Around
  N : List Str
  s₀ : Shared
  H₀ : Hp
  env : Env
  outer : List Env
  stack : List Env
  ex : List Addr
  fn : Str → Bool
  calm : Bool
  pn : List (Addr × Obj)
  xe : Value → Shared → Prop
/-- the callers' frames -/
def frs (l : List Env) : List Addr := l.filterMap (·.frame)
abbrev Cx.fs (X : Cx) : List Addr := frs X.outer

def Vis (sc : Scope) (x : Str) : Prop := sc.names.lookup x = some .local ∨ sc.names.lookup x = some .cell ∨ sc.names.lookup x = some .free
def Loc (sc : Scope) (x : Str) : Prop := sc.names.lookup x = some .local ∨ sc.names.lookup x = some .cell
def Look (env : Env) (h : Heap) (m : Str → Option Value) (x : Str) (u : Value) : Prop :=
  (env.kindOf x = some .local ∧ m x = some u) ∨ ((env.kindOf x = some .cell ∨ env.kindOf x = some .free) ∧ ∃ c, env.cells.lookup x = some c ∧ h.IsCell c (some u))

structure Cx.Ok (X : Cx) : Prop where
  mod : Mod X.K X.mg X.base
  kind : X.env.scope.kind = .function
  glob : X.env.globals = mainGlobals
  blt : X.env.builtins = builtinsNs
  above : X.s₀.heap.objs.size ≤ X.env.locals
  inj : ∀ x y c, X.env.cells.lookup x = some c → X.env.cells.lookup y = some c → x = y
  has : ∀ x, (X.env.kindOf x = some .cell ∨ X.env.kindOf x = some .free) → ∃ c, X.env.cells.lookup x = some c
  cab : ∀ x c, X.fn x = true → X.env.cells.lookup x = some c → X.s₀.heap.objs.size ≤ c
  hd : X.calm = true → X.A.handled = none
  frames : X.A.frames = some X.stack
  stk : X.stack = X.outer ∨ (X.stack = X.env :: X.outer ∧ X.env.frame = some X.env.locals)
  exf : ∀ b ∈ X.ex, b ≠ X.env.locals ∧ ∀ x c, X.env.cells.lookup x = some c → c ≠ b
  bs : ∀ b o, X.base.get? b = some o → X.s₀.heap.get? b = some o ∧ X.H₀ b = none
  bsz : X.base.objs.size ≤ X.s₀.heap.objs.size
  noex : ∀ b o, X.base.get? b = some o → b ∉ X.ex
  exfs : ∀ b ∈ X.ex, b ∉ X.fs
  funs : X.s₀.heap.FunFrames X.base X.outer
  frf : ∀ b ∈ X.fs, X.H₀ b = none

structure Inv (X : Cx) (pins : List (Addr × Obj)) (σ : List (Option V)) (H : Hp) (s : Shared) : Prop where
  ok : X.Ok
  os : s.os = X.s₀.os
  bare : AllBare s.gens
  base : Un X.fs X.ex X.H₀ H X.s₀.heap s.heap
  loc : ∃ m, s.heap.Ns X.env.locals m ∧ ∀ (i : Nat) (x : Str) (v : V), X.N[i]? = some x → σ[i]? = some (some v) → Vis X.env.scope x → ∃ u, RelV v u ∧ Look X.env s.heap m x u
  cell : ∀ x c, X.env.cells.lookup x = some c → ∃ v, s.heap.IsCell c v
  free : H X.env.locals = none
  freeC : ∀ x c, X.env.cells.lookup x = some c → H c = none
  pin : ∀ p ∈ X.pn ++ pins, s.heap.get? p.1 = some p.2 ∧ H p.1 = none ∧ p.1 ≠ X.env.locals ∧ p.1 ∉ X.fs ∧ ∀ v, p.2.data ≠ .cell v
  hok : HOk X.prog X.w H s.heap
  len : σ.length = X.N.length

section
variable {X : Cx} {pins : List (Addr × Obj)} {σ : List (Option V)} {H H' : Hp} {s : Shared} {h' : Heap}

theorem Cx.Ok.nofr (ok : X.Ok) {b : Addr} {o : Obj} (e : X.base.get? b = some o) : b ∉ X.fs := fun hb => by
  have := (ok.funs.mem hb).1
  rw [e] at this; cases this
theorem Inv.bs (I : Inv X pins σ H s) : ∀ b o, X.base.get? b = some o → s.heap.get? b = some o ∧ H b = none := fun b o e =>
  ⟨I.base.keep b o (I.ok.bs b o e).1 (I.ok.bs b o e).2 (I.ok.nofr e) (I.ok.noex b o e), I.base.free b o (I.ok.bs b o e).1 (I.ok.bs b o e).2 (I.ok.noex b o e)⟩
theorem Inv.bk (I : Inv X pins σ H s) : ∀ b o, X.base.get? b = some o → s.heap.get? b = some o := fun b o e => (I.bs b o e).1
theorem Inv.mod (I : Inv X pins σ H s) : Mod X.K X.mg X.base := I.ok.mod
theorem Inv.kIn (I : Inv X pins σ H s) : X.K.In s.heap := I.ok.mod.kin.keeps I.bk
theorem Inv.nolimit (I : Inv X pins σ H s) : s.heap.NoLimit := I.ok.mod.nolimit.keeps I.bk
/-- the frame over the base: for OpenK's rules (K.In X.base is I.mod.kin) -/
theorem Inv.fr (I : Inv X pins σ H s) : ∃ m, Fr X.base X.env.locals s.heap m :=
  let ⟨m, hn, _⟩ := I.loc
  ⟨m, hn, I.bk, Nat.le_trans I.ok.bsz I.ok.above⟩
theorem Inv.lt (I : Inv X pins σ H s) : X.env.locals < s.heap.objs.size := let ⟨_, hn, _⟩ := I.loc; hn.lt
theorem Inv.sz (I : Inv X pins σ H s) : X.s₀.heap.objs.size ≤ s.heap.objs.size := Nat.le_trans I.ok.above (Nat.le_of_lt I.lt)
theorem Inv.nofs (I : Inv X pins σ H s) {a : Addr} (h : s.heap.objs.size ≤ a) : a ∉ X.fs := fun hb => by
  obtain ⟨_, o, ho, _⟩ := I.ok.funs.mem hb
  exact absurd (Nat.lt_of_lt_of_le (Heap.lt_size ho) (Nat.le_trans I.sz h)) (Nat.lt_irrefl _)
theorem Inv.cne (I : Inv X pins σ H s) : ∀ x c, X.env.cells.lookup x = some c → c ≠ X.env.locals := fun x c e z => by
  obtain ⟨v, o, ho, hd⟩ := I.cell x c e
  obtain ⟨m, ⟨o', es, ep, ho', hd', _⟩, _⟩ := I.loc
  rw [z, ho'] at ho; cases ho; rw [hd'] at hd; cases hd
theorem Inv.funs (I : Inv X pins σ H s) : s.heap.FunFrames X.base X.outer := by
  have all : ∀ (l : List Env), (∀ b ∈ frs l, b ∈ X.fs) → X.s₀.heap.FunFrames X.base l → s.heap.FunFrames X.base l := by
    intro l
    induction l with
    | nil => intro _ _; trivial
    | cons env r ih =>
      intro hs hl
      obtain ⟨hk, ⟨L, o, hf, hn, ho, hd⟩, hr⟩ := hl
      have hL : L ∈ X.fs := hs L (by unfold frs; rw [List.filterMap_cons, hf]; exact List.mem_cons_self)
      obtain ⟨sl, e⟩ := I.base.slot L o ho (I.ok.frf L hL) hL fun z => I.ok.exfs L z hL
      exact ⟨hk, ⟨L, _, hf, hn, e, hd⟩, ih (fun b hb => hs b (by unfold frs; rw [List.filterMap_cons, hf]; exact List.mem_cons_of_mem _ hb)) hr⟩
  exact all X.outer (fun _ hb => hb) I.ok.funs

/-- the frames that run, for a call -/
theorem Inv.stack (I : Inv X pins σ H s) : s.heap.FunFrames X.base X.stack := by
  rcases I.ok.stk with e | ⟨e, hf⟩
  · rw [e]; exact I.funs
  · rw [e]
    obtain ⟨m, hn, _⟩ := I.loc
    refine .cons (by rw [I.ok.kind]; decide) hf hn ?_ I.funs
    exact Heap.get?_none_of_le (Nat.le_trans I.ok.bsz I.ok.above)
theorem Inv.stkSub (I : Inv X pins σ H s) : ∀ b ∈ frs X.stack, b ∈ X.env.locals :: X.fs := fun b hb => by
  rcases I.ok.stk with e | ⟨e, hf⟩
  · rw [e] at hb; exact List.mem_cons_of_mem _ hb
  · rw [e] at hb
    unfold frs at hb
    rw [List.filterMap_cons, hf] at hb
    exact hb
theorem Inv.stkFree (I : Inv X pins σ H s) : ∀ b ∈ frs X.stack, H b = none := fun b hb => by
  rcases List.mem_cons.mp (I.stkSub b hb) with e | hb
  · rw [e]; exact I.free
  · obtain ⟨_, o, ho, _⟩ := I.ok.funs.mem hb
    exact I.base.free b o ho (I.ok.frf b hb) fun z => I.ok.exfs b z hb

/-- THE STEP: the untracked objects but the frame and the records at ch are kept (the callers' frames up to slots), the frame's map is kept, the new abstract heap is held -/
theorem Inv.step {g' : Array GenState} {t' : Nat} {d' : Drawn} {ch : List Addr} (I : Inv X pins σ H s)
    (hch : ∀ b ∈ ch, (b ∈ X.ex ∨ X.s₀.heap.objs.size ≤ b) ∧ b ≠ X.env.locals ∧ (∀ x c, X.env.cells.lookup x = some c → c ≠ b) ∧ ∀ p ∈ X.pn ++ pins, p.1 ≠ b)
    (keep : ∀ b o, b ≠ X.env.locals → b ∉ X.fs → b ∉ ch → s.heap.get? b = some o → H b = none → h'.get? b = some o)
    (slot : ∀ b o, b ≠ X.env.locals → b ∈ X.fs → b ∉ ch → s.heap.get? b = some o → H b = none → ∃ sl, h'.get? b = some { o with slots := sl }) (free : ∀ b o, b ∉ ch → s.heap.get? b = some o → H b = none → H' b = none)
    (there : ∀ b o, b ∉ ch → s.heap.get? b = some o → ∃ o', h'.get? b = some o')
    (tups : ∀ b xs, H b = some (.tup xs) → H' b = some (.tup xs)) (frzs : ∀ b o u, H b = some (.frz o u) → H' b = some (.frz o u)) (tbls : ∀ b ps, H b = some (.tbl ps) → ∃ more, H' b = some (.tbl (ps ++ more)))
    (ns : ∀ m, s.heap.Ns X.env.locals m → h'.Ns X.env.locals m) (hok : HOk X.prog X.w H' h') (hg : AllBare g') :
    Inv X pins σ H' { s with heap := h', gens := g', drawn := d', toks := t' } := by
  have neL : ∀ b o, X.s₀.heap.get? b = some o → b ≠ X.env.locals := fun b o e => Nat.ne_of_lt (Nat.lt_of_lt_of_le (Heap.lt_size e) I.ok.above)
  have neC : ∀ b o, X.s₀.heap.get? b = some o → b ∉ X.ex → b ∉ ch := fun b o e hx hb => by
    rcases (hch b hb).1 with z | z
    · exact hx z
    · exact absurd (Nat.lt_of_lt_of_le (Heap.lt_size e) z) (Nat.lt_irrefl _)
  have cellK : ∀ x c, X.env.cells.lookup x = some c → ∀ v, s.heap.IsCell c v → h'.IsCell c v := fun x c e v ⟨o, ho, hd⟩ => by
    have nch : c ∉ ch := fun z => (hch c z).2.2.1 x c e rfl
    by_cases hc : c ∈ X.fs
    · obtain ⟨sl, q⟩ := slot c o (I.cne x c e) hc nch ho (I.freeC x c e)
      exact ⟨_, q, hd⟩
    · exact ⟨o, keep c o (I.cne x c e) hc nch ho (I.freeC x c e), hd⟩
  refine ⟨I.ok, I.os, hg, ⟨fun b o e n hb hx => ?_, fun b o e n hb hx => ?_, fun b o e n hx => ?_, fun b o e hx => ?_, fun b xs e => tups b xs (I.base.tups b xs e), fun b o xs e => frzs b o xs (I.base.frzs b o xs e), fun b ps e => ?_⟩, ?_, fun x c e => ?_, ?_, fun x c e => ?_, fun p hp => ?_, hok, I.len⟩
  · exact keep b o (neL b o e) hb (neC b o e hx) (I.base.keep b o e n hb hx) (I.base.free b o e n hx)
  · obtain ⟨sl, e1⟩ := I.base.slot b o e n hb hx
    obtain ⟨sl', e2⟩ := slot b _ (neL b o e) hb (neC b o e hx) e1 (I.base.free b o e n hx)
    exact ⟨sl', e2⟩
  · obtain ⟨o', e1⟩ := I.base.there b o e hx
    exact free b o' (neC b o e hx) e1 (I.base.free b o e n hx)
  · obtain ⟨o', e1⟩ := I.base.there b o e hx
    exact there b o' (neC b o e hx) e1
  · obtain ⟨m1, e1⟩ := I.base.tbls b ps e
    obtain ⟨m2, e2⟩ := tbls b _ e1
    exact ⟨m1 ++ m2, by rw [e2, Array.append_assoc]⟩
  · obtain ⟨m, hn, hl⟩ := I.loc
    refine ⟨m, ns m hn, fun i x v e1 e2 e3 => ?_⟩
    obtain ⟨u, r, l⟩ := hl i x v e1 e2 e3
    refine ⟨u, r, ?_⟩
    rcases l with l | ⟨k, c, e, z⟩
    · exact .inl l
    · exact .inr ⟨k, c, e, cellK x c e _ z⟩
  · obtain ⟨v, z⟩ := I.cell x c e
    exact ⟨v, cellK x c e v z⟩
  · obtain ⟨m, ⟨o, _, _, ho, _⟩, _⟩ := I.loc
    exact free _ o (fun z => (hch _ z).2.1 rfl) ho I.free
  · obtain ⟨v, o, ho, hd⟩ := I.cell x c e
    exact free c o (fun z => (hch c z).2.2.1 x c e rfl) ho (I.freeC x c e)
  · obtain ⟨e, n, ne, nf, d⟩ := I.pin p hp
    have nch : p.1 ∉ ch := fun z => (hch p.1 z).2.2.2 p hp rfl
    exact ⟨keep p.1 p.2 ne nf nch e n, free p.1 p.2 nch e n, ne, nf, d⟩
/-- .. where the frame's own object is kept too -/
theorem Inv.un {t' : Nat} (I : Inv X pins σ H s) (u : Un X.fs [] H H' s.heap h') (hok : HOk X.prog X.w H' h') : Inv X pins σ H' { s with heap := h', toks := t' } := by
  obtain ⟨m, ⟨o, es, ep, ho, r⟩, _⟩ := id I.loc
  obtain ⟨sl, hL⟩ := u.any ho I.free (by simp)
  exact I.step (g' := s.gens) (d' := s.drawn) (ch := []) (fun _ z => nomatch z) (fun b o _ hb _ e n => u.keep b o e n hb (by simp)) (fun b o _ hb _ e n => u.slot b o e n hb (by simp)) (fun b o _ e n => u.free b o e n (by simp)) (fun b o _ e => u.there b o e (by simp)) u.tups u.frzs u.tbls (fun m' hm => by
    obtain ⟨o', es', ep', ho', r'⟩ := hm
    rw [ho] at ho'; cases ho'
    exact ⟨_, es', ep', hL, r'⟩) hok I.bare
/-- behind a call (or a comprehension's block): the slots of this frame may have changed too, the records at ch may have turned -/
theorem Inv.call {g' : Array GenState} {t' : Nat} {d' : Drawn} {ch : List Addr} (I : Inv X pins σ H s) (u : Un (frs X.stack) ch H H' s.heap h') (hok : HOk X.prog X.w H' h') (hg : AllBare g')
    (hch : ∀ b ∈ ch, (b ∈ X.ex ∨ X.s₀.heap.objs.size ≤ b) ∧ b ≠ X.env.locals ∧ (∀ x c, X.env.cells.lookup x = some c → c ≠ b) ∧ ∀ p ∈ X.pn ++ pins, p.1 ≠ b) :
    Inv X pins σ H' { s with heap := h', gens := g', drawn := d', toks := t' } := by
  obtain ⟨m, ⟨o, es, ep, ho, r⟩, _⟩ := id I.loc
  obtain ⟨sl, hL⟩ := u.any ho I.free fun z => (hch _ z).2.1 rfl
  exact I.step (ch := ch) hch (fun b o hL hb hc e n => u.keep b o e n (fun z => (List.mem_cons.mp (I.stkSub b z)).elim hL hb) hc) (fun b o _ _ hc e n => u.any e n hc) (fun b o hc e n => u.free b o e n hc) (fun b o hc e => u.there b o e hc) u.tups u.frzs u.tbls (fun m' hm => by
    obtain ⟨o', es', ep', ho', r'⟩ := hm
    rw [ho] at ho'; cases ho'
    exact ⟨_, es', ep', hL, r'⟩) hok hg
/-- an untracked record of ours (an iterator) has turned -/
theorem Inv.turned {t' : Nat} {it : Addr} (I : Inv X pins σ H s) (k : ∀ b o, b ≠ it → s.heap.get? b = some o → h'.get? b = some o) (hn : H it = none) (hL : it ≠ X.env.locals)
    (h1 : it ∈ X.ex ∨ X.s₀.heap.objs.size ≤ it) (h2 : ∀ x c, X.env.cells.lookup x = some c → c ≠ it) (h3 : ∀ p ∈ X.pn ++ pins, p.1 ≠ it) : Inv X pins σ H { s with heap := h', toks := t' } := by
  have nit : ∀ b u, H b = some u → b ≠ it := fun b u e z => by rw [z, hn] at e; cases e
  refine I.step (g' := s.gens) (d' := s.drawn) (ch := [it]) (fun b hb => ?_) (fun b o _ _ hc e _ => k b o (fun z => hc (by simp [z])) e) (fun b o _ _ hc e _ => ⟨o.slots, k b o (fun z => hc (by simp [z])) e⟩) (fun _ _ _ _ n => n)
    (fun b o hc e => ⟨o, k b o (fun z => hc (by simp [z])) e⟩) (fun _ _ e => e) (fun _ _ _ e => e) (fun b ps e => ⟨#[], by rw [e]; simp⟩) (fun m hm => ?_) (fun b u e => ?_) I.bare
  · have e : b = it := by simpa using hb
    subst e
    exact ⟨h1, hL, h2, h3⟩
  · obtain ⟨o, es, ep, ho, r⟩ := hm
    exact ⟨o, es, ep, k _ o (Ne.symm hL) ho, r⟩
  · refine (I.hok b u e).stay (fun c v hc q => k c v ?_ q) (fun _ q => q) fun _ _ q => q
    rcases hc with z | z
    · rw [z]; exact nit b u e
    · exact nit c _ z
theorem Inv.tok (I : Inv X pins σ H s) (t : Nat) : Inv X pins σ H { s with toks := t } := I.un (h' := s.heap) (t' := t) Un.refl I.hok
/-- all objects kept -/
theorem Inv.kept {t' : Nat} (I : Inv X pins σ H s) (k : ∀ b u, s.heap.get? b = some u → h'.get? b = some u) : Inv X pins σ H { s with heap := h', toks := t' } := I.un (Un.kept k) (I.hok.kept k)
/-- a new object laid and tracked -/
theorem Inv.laid {a : Addr} {o : HO} {t' : Nat} (I : Inv X pins σ H s) (k : ∀ b u, s.heap.get? b = some u → h'.get? b = some u) (hp : s.heap.objs.size ≤ a) (new : ObjOk X.prog X.w (upd H a o) h' a o) :
    Inv X pins σ (upd H a o) { s with heap := h', toks := t' } := I.un (Un.laid k hp (I.hok.fresh hp)) (I.hok.laid k hp new)
/-- an object written -/
theorem Inv.write {x e : Addr} {o : HO} {t' : Nat} (I : Inv X pins σ H s) (mu : Mut (H x)) (he : e = x ∨ H e = some (.own x)) (k : ∀ b u, b ≠ e → s.heap.get? b = some u → h'.get? b = some u) (heo : ∃ u, h'.get? e = some u)
    (new : ObjOk X.prog X.w (upd H x o) h' x o) : Inv X pins σ (upd H x o) { s with heap := h', toks := t' } := I.un (Un.write mu he k heo) (I.hok.write mu he k heo new)
/-- forgetting slots, pins -/
theorem Inv.weak {σ' : List (Option V)} (I : Inv X pins σ H s) (hl : σ'.length = σ.length) (w : ∀ (i : Nat) v, σ'[i]? = some (some v) → σ[i]? = some (some v)) : Inv X pins σ' H s :=
  ⟨I.ok, I.os, I.bare, I.base, let ⟨m, hn, hl'⟩ := I.loc; ⟨m, hn, fun i x v e1 e2 e3 => hl' i x v e1 (w i v e2) e3⟩, I.cell, I.free, I.freeC, I.pin, I.hok, hl.trans I.len⟩
theorem Inv.pins_of {pins' : List (Addr × Obj)} (I : Inv X pins σ H s) (h : ∀ p ∈ pins', s.heap.get? p.1 = some p.2 ∧ H p.1 = none ∧ p.1 ≠ X.env.locals ∧ p.1 ∉ X.fs ∧ ∀ v, p.2.data ≠ .cell v) : Inv X pins' σ H s :=
  ⟨I.ok, I.os, I.bare, I.base, I.loc, I.cell, I.free, I.freeC, fun p hp => (List.mem_append.mp hp).elim (fun z => I.pin p (List.mem_append_left _ z)) (h p), I.hok, I.len⟩

theorem nodup_ix {N : List Str} (hN : N.Nodup) {i j : Nat} {x : Str} (a : N[i]? = some x) (b : N[j]? = some x) : i = j := by
  obtain ⟨h1, e1⟩ := List.getElem?_eq_some_iff.mp a
  obtain ⟨h2, e2⟩ := List.getElem?_eq_some_iff.mp b
  exact (List.getElem_inj hN).mp (e1.trans e2.symm)

/-- a name is stored; what changed -/
theorem store_ok2 {M : Model} {A : Around} {E : Value → Shared → Prop} {i : Nat} {x : Str} {v : V} {u : Value} {Q : Unit → Shared → Prop} (I : Inv X pins σ H s) (hN : X.N.Nodup) (hi : X.N[i]? = some x) (hx : Loc X.env.scope x) (r : RelV v u)
    (h : ∀ s', Inv X pins (σ.set i (some v)) H s' → (∃ a, Heap.SameBut a s.heap s'.heap ∧ (a = X.env.locals ∨ X.env.cells.lookup x = some a)) → Q () s') (hf : X.fn x = true ∨ X.env.scope.names.lookup x = some .local := by first | exact .inl rfl | exact .inr rfl | assumption) : wpAny M A (storeName X.env x u) Q E s := by
  obtain ⟨m, hn, hl⟩ := id I.loc
  have hcls : (X.env.scope.kind == .class || (X.env.scope.kind == .module && X.env.locals != X.env.globals)) = false := by rw [I.ok.kind]; rfl
  have hiσ : i < σ.length := by rw [I.len]; exact (List.getElem?_eq_some_iff.mp hi).1
  have cne := I.cne
  have tracked : ∀ {a : Addr} {h' : Heap}, (∃ o, s.heap.get? a = some o ∧ H a = none) → Heap.SameBut a s.heap h' → HOk X.prog X.w H h' := fun {a h'} ha hs b ob e => by
    obtain ⟨_, _, hfree⟩ := ha
    refine (I.hok b ob e).stay (fun c w' hc q => (hs.2 c ?_).trans q) (fun _ q => q) fun _ _ q => q
    rintro rfl
    rcases hc with rfl | hc
    · rw [hfree] at e; cases e
    · rw [hfree] at hc; cases hc
  rcases hx with hk | hk
  · refine wpAny_storeName_local hk hn (fun h' hn' hs => ?_) hcls
    obtain ⟨oL, _, _, hoL, _⟩ := id hn
    refine h _ ⟨I.ok, I.os, I.bare, ⟨fun b o e n hb hx => ?_, fun b o e n hb hx => ?_, I.base.free, fun b o e hx => ?_, I.base.tups, I.base.frzs, I.base.tbls⟩, ⟨_, hn', fun j y v' e1 e2 e3 => ?_⟩, fun y c e => ?_, I.free, I.freeC, fun p hp => ?_, tracked ⟨oL, hoL, I.free⟩ hs, by simpa using I.len⟩ ⟨_, hs, .inl rfl⟩
    · exact (hs.2 b (Nat.ne_of_lt (Nat.lt_of_lt_of_le (Heap.lt_size e) I.ok.above))).trans (I.base.keep b o e n hb hx)
    · obtain ⟨sl, e1⟩ := I.base.slot b o e n hb hx
      exact ⟨sl, (hs.2 b (Nat.ne_of_lt (Nat.lt_of_lt_of_le (Heap.lt_size e) I.ok.above))).trans e1⟩
    · obtain ⟨o', e1⟩ := I.base.there b o e hx
      exact ⟨o', (hs.2 b (Nat.ne_of_lt (Nat.lt_of_lt_of_le (Heap.lt_size e) I.ok.above))).trans e1⟩
    · by_cases hj : j = i
      · subst hj
        rw [hi] at e1; cases e1
        rw [List.getElem?_set_self hiσ] at e2
        cases e2
        exact ⟨u, r, .inl ⟨hk, by simp⟩⟩
      · rw [List.getElem?_set_ne (Ne.symm hj)] at e2
        obtain ⟨u', r', q⟩ := hl j y v' e1 e2 e3
        refine ⟨u', r', ?_⟩
        rcases q with ⟨k, e⟩ | ⟨k, c, e, z⟩
        · refine .inl ⟨k, ?_⟩
          have : y ≠ x := fun e => hj (nodup_ix hN e1 (e ▸ hi))
          simp [this, e]
        · exact .inr ⟨k, c, e, z.sameBut hs (cne y c e)⟩
    · obtain ⟨w', z⟩ := I.cell y c e
      exact ⟨w', z.sameBut hs (cne y c e)⟩
    · obtain ⟨e, n, ne, nf, d⟩ := I.pin p hp
      exact ⟨(hs.2 p.1 ne).trans e, n, ne, nf, d⟩
  · have hfn : X.fn x = true := by
      rcases hf with z | z
      · exact z
      · rw [z] at hk; cases hk
    obtain ⟨c, hc⟩ := I.ok.has x (.inl hk)
    obtain ⟨w', z⟩ := I.cell x c hc
    refine wpAny_storeName_cell I.ok.kind hk hc z (fun h' hc' hs => ?_)
    obtain ⟨oc, hoc, hocd⟩ := id z
    refine h { s with heap := h' } ⟨I.ok, I.os, I.bare, ⟨fun b o e n hb hx => ?_, fun b o e n hb hx => ?_, I.base.free, fun b o e hx => ?_, I.base.tups, I.base.frzs, I.base.tbls⟩, ⟨m, hn.sameBut hs (Ne.symm (cne x c hc)), fun j y v' e1 e2 e3 => ?_⟩, fun y c' e => ?_, I.free, I.freeC, fun p hp => ?_, tracked ⟨oc, hoc, I.freeC x c hc⟩ hs, by simpa using I.len⟩ ⟨c, hs, .inr hc⟩
    · exact (hs.2 b (Nat.ne_of_lt (Nat.lt_of_lt_of_le (Heap.lt_size e) (I.ok.cab x c hfn hc)))).trans (I.base.keep b o e n hb hx)
    · obtain ⟨sl, e1⟩ := I.base.slot b o e n hb hx
      exact ⟨sl, (hs.2 b (Nat.ne_of_lt (Nat.lt_of_lt_of_le (Heap.lt_size e) (I.ok.cab x c hfn hc)))).trans e1⟩
    · obtain ⟨o', e1⟩ := I.base.there b o e hx
      exact ⟨o', (hs.2 b (Nat.ne_of_lt (Nat.lt_of_lt_of_le (Heap.lt_size e) (I.ok.cab x c hfn hc)))).trans e1⟩
    · by_cases hj : j = i
      · subst hj
        rw [hi] at e1; cases e1
        rw [List.getElem?_set_self hiσ] at e2
        cases e2
        exact ⟨u, r, .inr ⟨.inl hk, c, hc, hc'⟩⟩
      · rw [List.getElem?_set_ne (Ne.symm hj)] at e2
        obtain ⟨u', r', q⟩ := hl j y v' e1 e2 e3
        refine ⟨u', r', ?_⟩
        rcases q with q | ⟨k, c', e, z'⟩
        · exact .inl q
        · refine .inr ⟨k, c', e, z'.sameBut hs ?_⟩
          rintro rfl
          exact hj (nodup_ix hN e1 (I.ok.inj _ _ _ e hc ▸ hi))
    · by_cases hcc : c' = c
      · subst hcc; exact ⟨_, hc'⟩
      · obtain ⟨w2, z2⟩ := I.cell y c' e
        exact ⟨w2, z2.sameBut hs hcc⟩
    · obtain ⟨e, n, ne, nf, d⟩ := I.pin p hp
      refine ⟨(hs.2 p.1 ?_).trans e, n, ne, nf, d⟩
      intro q
      rw [q, hoc] at e
      have q' : oc = p.2 := Option.some.inj e
      exact d w' (by rw [← q']; exact hocd)
theorem store_ok {M : Model} {A : Around} {E : Value → Shared → Prop} {i : Nat} {x : Str} {v : V} {u : Value} {Q : Unit → Shared → Prop} (I : Inv X pins σ H s) (hN : X.N.Nodup) (hi : X.N[i]? = some x) (hx : Loc X.env.scope x) (r : RelV v u)
    (h : ∀ s', Inv X pins (σ.set i (some v)) H s' → Q () s') (hf : X.fn x = true ∨ X.env.scope.names.lookup x = some .local := by first | exact .inl rfl | exact .inr rfl | assumption) : wpAny M A (storeName X.env x u) Q E s :=
  store_ok2 I hN hi hx r (fun s' I' _ => h s' I') hf
/-- behind a call or a block, the state as it is -/
theorem Inv.call' {s' : Shared} {ch : List Addr} (I : Inv X pins σ H s) (ho : s'.os = s.os) (u : Un (frs X.stack) ch H H' s.heap s'.heap) (hok : HOk X.prog X.w H' s'.heap) (hg : AllBare s'.gens)
    (hch : ∀ b ∈ ch, (b ∈ X.ex ∨ X.s₀.heap.objs.size ≤ b) ∧ b ≠ X.env.locals ∧ (∀ x c, X.env.cells.lookup x = some c → c ≠ b) ∧ ∀ p ∈ X.pn ++ pins, p.1 ≠ b) : Inv X pins σ H' s' := by
  obtain ⟨h', g', d', t', o'⟩ := s'
  have e : o' = s.os := ho
  subst e
  exact I.call (g' := g') (t' := t') (d' := d') u hok hg hch
end

/-! ### the judgements -/
/-- an exception: its class, its own dict's address (where it has one), the abstract heap behind it -/
abbrev XK := Value → Option Addr → Hp → Prop
abbrev St := List (Option V)
abbrev VK := V → Hp → Prop
/-- an expression's reading; a test's; an argument list's -/
abbrev TE := St → Hp → VK → Prop
abbrev TT := St → Hp → (Bool → Hp → Prop) → Prop
abbrev TA := St → Hp → (List V → Hp → Prop) → Prop
/-- what is wanted behind a statement -/
structure Ends where
  nx : St → Hp → Prop
  rt : VK
  bk : St → Hp → Prop := fun _ _ => False
  ct : St → Hp → Prop := fun _ _ => False
abbrev TS := Ends → St → Hp → Prop

def EP (X : Cx) (pins : List (Addr × Obj)) (σ : St) (Q : VK) (u : Value) (s' : Shared) : Prop := ∃ v H', Inv X pins σ H' s' ∧ RelV v u ∧ Q v H'
def TP (X : Cx) (pins : List (Addr × Obj)) (σ : St) (Q : Bool → Hp → Prop) (b : Bool) (s' : Shared) : Prop := ∃ H', Inv X pins σ H' s' ∧ Q b H'
def AP (X : Cx) (pins : List (Addr × Obj)) (σ : St) (Q : List V → Hp → Prop) (us : List Value) (s' : Shared) : Prop := ∃ vs H', Inv X pins σ H' s' ∧ Vals vs us ∧ Q vs H'
def SP (X : Cx) (pins : List (Addr × Obj)) (D : Ends) (f : Flow) (s' : Shared) : Prop :=
  match f with
  | .next => ∃ σ' H', Inv X pins σ' H' s' ∧ D.nx σ' H'
  | .brk => ∃ σ' H', Inv X pins σ' H' s' ∧ D.bk σ' H'
  | .cont => ∃ σ' H', Inv X pins σ' H' s' ∧ D.ct σ' H'
  | .ret u => ∃ v σ' H', Inv X pins σ' H' s' ∧ RelV v u ∧ D.rt v H'

def PE (X : Cx) (e : Expr) (t : TE) : Prop :=
  ∀ (pins : List (Addr × Obj)) (s : Shared) (σ : St) (H : Hp) (Q : VK), Inv X pins σ H s → t σ H Q → wpAny (model X.prog X.w) X.A (eval e X.env) (EP X pins σ Q) X.xe s
def PT (X : Cx) (e : Expr) (t : TT) : Prop :=
  ∀ (pins : List (Addr × Obj)) (s : Shared) (σ : St) (H : Hp) (Q : Bool → Hp → Prop), Inv X pins σ H s → t σ H Q → wpAny (model X.prog X.w) X.A (isTrue e X.env (eval e X.env)) (TP X pins σ Q) X.xe s
/-- a test whatever its 'whole' is (and, or) -/
def PW (X : Cx) (e : Expr) (t : TT) : Prop :=
  ∀ (whole : Sem Value) (pins : List (Addr × Obj)) (s : Shared) (σ : St) (H : Hp) (Q : Bool → Hp → Prop), Inv X pins σ H s → t σ H Q → wpAny (model X.prog X.w) X.A (isTrue e X.env whole) (TP X pins σ Q) X.xe s
theorem PW.pt {X : Cx} {e : Expr} {t : TT} (h : PW X e t) : PT X e t := h _
/-- an argument list (no star), from the left -/
def PA (X : Cx) (es : List Expr) (t : TA) : Prop :=
  ∀ (pos : Pos) (pins : List (Addr × Obj)) (s : Shared) (σ : St) (H : Hp) (Q : List V → Hp → Prop), Inv X pins σ H s → t σ H Q → wpAny (model X.prog X.w) X.A (spliced (backTo pos (starEach es X.env))) (AP X pins σ Q) X.xe s
def PS (X : Cx) (st : Stmt) (t : TS) : Prop :=
  ∀ (pins : List (Addr × Obj)) (s : Shared) (σ : St) (H : Hp) (D : Ends), Inv X pins σ H s → t D σ H → wpAny (model X.prog X.w) X.A (exec st X.env) (SP X pins D) X.xe s
def PSs (X : Cx) (st : List Stmt) (t : TS) : Prop :=
  ∀ (pins : List (Addr × Obj)) (s : Shared) (σ : St) (H : Hp) (D : Ends), Inv X pins σ H s → t D σ H → wpAny (model X.prog X.w) X.A (execs st X.env) (SP X pins D) X.xe s
/-- weaken the end -/
theorem thn {α : Type} {t : Sem α} {Q Q' : α → Shared → Prop} {M : Model} {A : Around} {E : Value → Shared → Prop} {s : Shared} (h : wpAny M A t Q E s) (hQ : ∀ a s, Q a s → Q' a s) : wpAny M A t Q' E s := wpAny_mono h hQ fun _ _ x => x
end L2

namespace L2
open PySem PySem.Spec PyProof.Rows
section
variable {X : Cx}

/-- two expressions in a row -/
theorem bin {a b : Expr} {ta tb : TE} (ha : PE X a ta) (hb : PE X b tb) {pins : List (Addr × Obj)} {s : Shared} {σ : St} {H : Hp} {R : V → V → Hp → Prop} (I : Inv X pins σ H s) (h : ta σ H fun x H1 => tb σ H1 fun y H2 => R x y H2)
    {α : Type} {Q : α → Shared → Prop} {f : Value → Value → Sem α}
    (hf : ∀ v u s2 x y H2, Inv X pins σ H2 s2 → RelV x v → RelV y u → R x y H2 → wpAny (model X.prog X.w) X.A (f v u) Q X.xe s2) :
    wpAny (model X.prog X.w) X.A (eval a X.env) (fun v s₁ => wpAny (model X.prog X.w) X.A (eval b X.env) (fun u s₂ => wpAny (model X.prog X.w) X.A (f v u) Q X.xe s₂) X.xe s₁) X.xe s := by
  refine thn (ha pins s σ H _ I h) fun v s1 ⟨x, H1, I1, r1, q1⟩ => ?_
  refine thn (hb pins s1 σ H1 _ I1 q1) fun u s2 ⟨y, H2, I2, r2, q2⟩ => ?_
  exact hf v u s2 x y H2 I2 r1 r2 q2

/-! ### names and constants -/
def tVar (i : Nat) : TE := fun σ H Q => ∃ v, σ[i]? = some (some v) ∧ Q v H
def tC (v : V) : TE := fun _ H Q => Q v H
theorem pe_var {i : Nat} {x : Str} {pos : Pos} (hN : X.N[i]? = some x) (hv : Vis X.env.scope x) (hd : (x == ("__debug__" : Str)) = false := by decide) (hcd : (x == ("__classdict__" : Str)) = false := by decide) : PE X (.Name x pos) (tVar i) := by
  intro pins s σ H Q I h
  obtain ⟨v, e, h⟩ := h
  obtain ⟨m, hn, hl⟩ := I.loc
  obtain ⟨u, r, l⟩ := hl i x v hN e hv
  have fin : EP X pins σ Q u s := ⟨v, H, I, r, h⟩
  rcases l with ⟨hk, hm⟩ | ⟨hk, c, hc, hcell⟩
  · exact wpAny_Name (wpAny_loadName_local I.ok.kind hk hn hm fin) hd
  · rcases hk with hk | hk
    · exact wpAny_Name (wpAny_loadName_cell I.ok.kind hk hc hcell fin) hd
    · exact wpAny_Name (wpAny_loadName_free I.ok.kind hk hc hcell fin hcd) hd
theorem pe_int {i j pos} : PE X (.Constant (.int i) j pos) (tC (.int i)) := fun _ _ _ H _ I h => wpAny_Constant_int ⟨.int i, H, I.tok _, ⟨_, rfl⟩, h⟩
theorem pe_bl {b j pos} : PE X (.Constant (.bool b) j pos) (tC (.bl b)) := fun _ _ _ H _ I h => Constant_bool ⟨.bl b, H, I, rfl, h⟩
theorem pe_non {j pos} : PE X (.Constant .none j pos) (tC .non) := fun _ _ _ H _ I h => Constant_none ⟨.non, H, I, rfl, h⟩
theorem pe_str {x j pos} : PE X (.Constant (.str x) j pos) (tC (.str x)) := fun _ _ _ H _ I h => Calls.Constant_str ⟨.str x, H, I.tok _, ⟨_, rfl⟩, h⟩

/-- a global name of the def -/
def Gl (X : Cx) (x : Str) : Prop := X.env.kindOf x = some .globalImplicit
theorem ld_glob {E : Value → Shared → Prop} {pins : List (Addr × Obj)} {s : Shared} {σ : St} {H : Hp} {x : Str} {u : Value} {pos : Pos} {Q : Value → Shared → Prop} (I : Inv X pins σ H s) (hg : Gl X x) (hm : X.mg x = some u) (h : Q u s)
    (hd : (x == ("__debug__" : Str)) = false := by decide) : wpAny (model X.prog X.w) X.A (eval (.Name x pos) X.env) Q E s :=
  Calls.Name_function_global I.ok.kind hg (Calls.loadGlobal_global (by rw [I.ok.glob]; exact I.mod.glob.keeps I.bk) hm h) hd
theorem ld_blt {E : Value → Shared → Prop} {pins : List (Addr × Obj)} {s : Shared} {σ : St} {H : Hp} {x : Str} {u : Value} {pos : Pos} {Q : Value → Shared → Prop} (I : Inv X pins σ H s) (hg : Gl X x) (hm : X.mg x = none) (hv : bootBuiltins x = some u) (h : Q u s)
    (hn : x ≠ "__name__" := by decide) (hd : (x == ("__debug__" : Str)) = false := by decide) : wpAny (model X.prog X.w) X.A (eval (.Name x pos) X.env) Q E s := by
  obtain ⟨mb, h1, h2⟩ := I.mod.blt
  exact Calls.Name_function_global I.ok.kind hg (Calls.loadGlobal_builtin (by rw [I.ok.glob]; exact I.mod.glob.keeps I.bk) hm (by rw [I.ok.blt]; exact h1.keeps I.bk) ((h2 x hn).trans hv) h) hd
/-- a module's constant, a class, a function, as a value -/
theorem pe_glob {x : Str} {v : V} {u : Value} {pos : Pos} (hg : Gl X x) (hm : X.mg x = some u) (r : RelV v u) (hd : (x == ("__debug__" : Str)) = false := by decide) : PE X (.Name x pos) (tC v) :=
  fun _ _ _ H _ I h => ld_glob I hg hm ⟨v, H, I, r, h⟩ hd
theorem pe_bltn {x : Str} {v : V} {u : Value} {pos : Pos} (hg : Gl X x) (hm : X.mg x = none) (hv : bootBuiltins x = some u) (r : RelV v u) (hn : x ≠ "__name__" := by decide) (hd : (x == ("__debug__" : Str)) = false := by decide) : PE X (.Name x pos) (tC v) :=
  fun _ _ _ H _ I h => ld_blt I hg hm hv ⟨v, H, I, r, h⟩ hn hd

/-! ### arithmetic -/
/-- two ints -/
def t2I (ta tb : TE) (k : Int → Int → Hp → Prop) : St → Hp → Prop := fun σ H => ta σ H fun x H1 => tb σ H1 fun y H2 => ∃ i j, x = .int i ∧ y = .int j ∧ k i j H2
def tAdd (ta tb : TE) : TE := fun σ H Q => t2I ta tb (fun i j H2 => Q (.int (i + j)) H2) σ H
def tSub (ta tb : TE) : TE := fun σ H Q => t2I ta tb (fun i j H2 => Q (.int (i - j)) H2) σ H
/-- the left factor below 2^64 -/
def tMul (ta tb : TE) : TE := fun σ H Q => t2I ta tb (fun i j H2 => (-(2 ^ 64) < i ∧ i < 2 ^ 64) ∧ Q (.int (i * j)) H2) σ H
variable {a b : Expr} {ta tb : TE} {pos : Pos}
theorem pe_add (ha : PE X a ta) (hb : PE X b tb) : PE X (.BinOp a .Add b pos) (tAdd ta tb) := by
  intro pins s σ H Q I h
  refine wpAny_BinOp (bin ha hb I h fun v u s2 x y H2 I2 rx ry q => ?_)
  obtain ⟨i, j, rfl, rfl, q⟩ := q
  obtain ⟨t, rfl⟩ := rx
  obtain ⟨t', rfl⟩ := ry
  exact add_int ⟨.int _, H2, I2.tok _, ⟨_, rfl⟩, q⟩
theorem pe_sub (ha : PE X a ta) (hb : PE X b tb) : PE X (.BinOp a .Sub b pos) (tSub ta tb) := by
  intro pins s σ H Q I h
  refine wpAny_BinOp (bin ha hb I h fun v u s2 x y H2 I2 rx ry q => ?_)
  obtain ⟨i, j, rfl, rfl, q⟩ := q
  obtain ⟨t, rfl⟩ := rx
  obtain ⟨t', rfl⟩ := ry
  exact sub_int ⟨.int _, H2, I2.tok _, ⟨_, rfl⟩, q⟩
theorem pe_mul (ha : PE X a ta) (hb : PE X b tb) : PE X (.BinOp a .Mult b pos) (tMul ta tb) := by
  intro pins s σ H Q I h
  refine wpAny_BinOp (bin ha hb I h fun v u s2 x y H2 I2 rx ry q => ?_)
  obtain ⟨i, j, rfl, rfl, ⟨q1, q2⟩, q⟩ := q
  obtain ⟨t, rfl⟩ := rx
  obtain ⟨t', rfl⟩ := ry
  exact mul_int ⟨.int _, H2, I2.tok _, ⟨_, rfl⟩, q⟩ (.of_left (intBits_le_64 q1 q2))

/-! ### comparisons -/
def PC (X : Cx) (op : CmpOp) (a b : Expr) (t : TE) : Prop :=
  ∀ (pins : List (Addr × Obj)) (s : Shared) (σ : St) (H : Hp) (Q : VK), Inv X pins σ H s → t σ H Q →
    wpAny (model X.prog X.w) X.A (eval a X.env) (fun v s₁ => wpAny (model X.prog X.w) X.A (eval b X.env) (fun u s₂ => wpAny (model X.prog X.w) X.A (compareOp op v u) (EP X pins σ Q) X.xe s₂) X.xe s₁) X.xe s
theorem nobehind (b : Expr) {op : CmpOp} (h : op ≠ .In) (h2 : op ≠ .NotIn) : behindInMarks op b = false := by
  have e1 : (op == CmpOp.In) = false := by cases op <;> first | rfl | exact absurd rfl h
  have e2 : (op == CmpOp.NotIn) = false := by cases op <;> first | rfl | exact absurd rfl h2
  cases b <;> simp [behindInMarks, e1, e2]
def tCmp (p : Int → Int → Bool) (ta tb : TE) : TE := fun σ H Q => t2I ta tb (fun i j H2 => Q (.bl (p i j)) H2) σ H
abbrev tLt : TE → TE → TE := tCmp fun i j => decide (i < j)
abbrev tLe : TE → TE → TE := tCmp fun i j => decide (i ≤ j)
abbrev tGt : TE → TE → TE := tCmp fun i j => decide (j < i)
abbrev tGe : TE → TE → TE := tCmp fun i j => decide (j ≤ i)
abbrev tEqI : TE → TE → TE := tCmp fun i j => decide (i = j)
abbrev tNeI : TE → TE → TE := tCmp fun i j => !decide (i = j)
/-- a comparison of two ints, by its rule -/
theorem pc_int {op : CmpOp} {p : Int → Int → Bool} (ha : PE X a ta) (hb : PE X b tb)
    (rule : ∀ (i j : Int) (t u : Tok) (Q : Value → Shared → Prop) (s : Shared), Q (.bool (p i j)) s → wpAny (model X.prog X.w) X.A (compareOp op (.int i t) (.int j u)) Q X.xe s) : PC X op a b (tCmp p ta tb) := by
  intro pins s σ H Q I h
  refine bin ha hb I h fun v u s2 x y H2 I2 rx ry q => ?_
  obtain ⟨i, j, rfl, rfl, q⟩ := q
  obtain ⟨t, rfl⟩ := rx
  obtain ⟨t', rfl⟩ := ry
  exact rule i j t t' _ s2 ⟨.bl _, H2, I2, rfl, q⟩
theorem pc_lt (ha : PE X a ta) (hb : PE X b tb) : PC X .Lt a b (tLt ta tb) := pc_int ha hb fun _ _ _ _ _ _ h => lt_int h
theorem pc_le (ha : PE X a ta) (hb : PE X b tb) : PC X .LtE a b (tLe ta tb) := pc_int ha hb fun _ _ _ _ _ _ h => le_int h
theorem pc_gt (ha : PE X a ta) (hb : PE X b tb) : PC X .Gt a b (tGt ta tb) := pc_int ha hb fun _ _ _ _ _ _ h => gt_int h
theorem pc_ge (ha : PE X a ta) (hb : PE X b tb) : PC X .GtE a b (tGe ta tb) := pc_int ha hb fun _ _ _ _ _ _ h => ge_int h
theorem pc_eqI (ha : PE X a ta) (hb : PE X b tb) : PC X .Eq a b (tEqI ta tb) := pc_int ha hb fun _ _ _ _ _ _ h => eq_int (by rw [Bool.beq_eq_decide_eq]; exact h)
theorem pc_neI (ha : PE X a ta) (hb : PE X b tb) : PC X .NotEq a b (tNeI ta tb) := pc_int ha hb fun _ _ _ _ _ _ h => ne_int (by rw [bne, Bool.beq_eq_decide_eq]; exact h)
/-- is None -/
def tIsN (ta : TE) : TE := fun σ H Q => ta σ H fun x H1 => Q (.bl (decide (x = .non))) H1
def tNotN (ta : TE) : TE := fun σ H Q => ta σ H fun x H1 => Q (.bl (!decide (x = .non))) H1
theorem RelV.none_iff {x : V} {v : Value} (r : RelV x v) : (v == Value.none) = decide (x = .non) := by
  cases x with
  | non => cases r; rfl
  | bl _ => cases r; rfl
  | int _ => obtain ⟨t, rfl⟩ := r; rfl
  | str _ => obtain ⟨t, rfl⟩ := r; rfl
  | byt _ => obtain ⟨t, rfl⟩ := r; rfl
  | flt _ => obtain ⟨t, rfl⟩ := r; rfl
  | ref _ => cases r; rfl
  | ty _ => cases r; rfl
theorem pc_isN {j pos'} (ha : PE X a ta) : PC X .Is a (.Constant .none j pos') (tIsN ta) := by
  intro pins s σ H Q I h
  refine thn (ha pins s σ H _ I h) fun v s1 ⟨x, H1, I1, r1, q1⟩ => ?_
  exact Constant_none (is_none_gen ⟨.bl _, H1, I1, by rw [r1.none_iff]; rfl, q1⟩)
theorem pc_notN {j pos'} (ha : PE X a ta) : PC X .IsNot a (.Constant .none j pos') (tNotN ta) := by
  intro pins s σ H Q I h
  refine thn (ha pins s σ H _ I h) fun v s1 ⟨x, H1, I1, r1, q1⟩ => ?_
  exact Constant_none (isnot_none_gen ⟨.bl _, H1, I1, by rw [r1.none_iff]; rfl, q1⟩)
/-- a comparison as a value, as a test -/
def tB (t : TE) : TT := fun σ H Q => t σ H fun x H1 => ∃ c, x = .bl c ∧ Q c H1
theorem pe_cmp {op : CmpOp} {t : TE} (h : PC X op a b t) (h1 : behindInMarks op b = false := by first | exact nobehind _ (by decide) (by decide) | rfl) : PE X (.Compare a [op] [b] pos) t := fun pins s σ H Q I hw => wpAny_Compare1 (h pins s σ H Q I hw) h1
theorem pt_cmp {op : CmpOp} {t : TE} (h : PC X op a b t) (h1 : behindInMarks op b = false := by first | exact nobehind _ (by decide) (by decide) | rfl) : PT X (.Compare a [op] [b] pos) (tB t) := by
  intro pins s σ H Q I hw
  refine wpAny_isTrue_Compare1 (thn (h pins s σ H _ I hw) fun v s1 h1 => thn h1 fun u s2 h2 => thn h2 fun c s3 ⟨x, H1, I1, r1, q1⟩ => ?_) h1
  obtain ⟨d, rfl, q⟩ := q1
  cases r1
  exact wpAny_truthy_bool ⟨H1, I1, q⟩
/-- an expression whose value is a bool, as a test -/
theorem pt_val {e : Expr} {t : TE} (h : PE X e t) (he : ∀ whole, isTrue e X.env whole = (do let v ← whole; standAt e.pos; holding [v] (truthy v)) := by intro _; rfl) : PT X e (tB t) := by
  intro pins s σ H Q I hw
  refine isTrue_plain (thn (h pins s σ H _ I hw) fun v s1 ⟨x, H1, I1, r1, q1⟩ => ?_) (he _)
  obtain ⟨d, rfl, q⟩ := q1
  cases r1
  exact wpAny_truthy_bool ⟨H1, I1, q⟩

/-! ### and, or, not -/
variable {tA tB' : TT} {rest : List Expr}
def tAnd (t u : TT) : TT := fun σ H Q => t σ H fun c H1 => if c = true then u σ H1 Q else Q false H1
def tOr (t u : TT) : TT := fun σ H Q => t σ H fun c H1 => if c = true then Q true H1 else u σ H1 Q
def tNot (t : TT) : TT := fun σ H Q => t σ H fun c H1 => Q (!c) H1
theorem pw_and1 (ha : PT X a tA) : PW X (.BoolOp .And [a] pos) tA := by
  intro wh pins s σ H Q I h
  refine isTrue_and (thn (ha pins s σ H Q I h) fun c s1 e => ?_)
  cases c with
  | true => exact isTrue_and_nil e
  | false => exact e
theorem pw_or1 (ha : PT X a tA) : PW X (.BoolOp .Or [a] pos) tA := by
  intro wh pins s σ H Q I h
  refine isTrue_or (thn (ha pins s σ H Q I h) fun c s1 e => ?_)
  cases c with
  | false => exact isTrue_or_nil e
  | true => exact e
theorem pw_and (ha : PT X a tA) (hb : PW X (.BoolOp .And (b :: rest) pos) tB') : PW X (.BoolOp .And (a :: b :: rest) pos) (tAnd tA tB') := by
  intro wh pins s σ H Q I h
  refine isTrue_and (thn (ha pins s σ H _ I h) fun c s1 ⟨H1, I1, q1⟩ => ?_)
  cases c with
  | true => exact hb wh pins s1 σ H1 Q I1 q1
  | false => exact ⟨H1, I1, q1⟩
theorem pw_or (ha : PT X a tA) (hb : PW X (.BoolOp .Or (b :: rest) pos) tB') : PW X (.BoolOp .Or (a :: b :: rest) pos) (tOr tA tB') := by
  intro wh pins s σ H Q I h
  refine isTrue_or (thn (ha pins s σ H _ I h) fun c s1 ⟨H1, I1, q1⟩ => ?_)
  cases c with
  | true => exact ⟨H1, I1, q1⟩
  | false => exact hb wh pins s1 σ H1 Q I1 q1
theorem pt_not (ha : PT X a tA) : PT X (.UnaryOp .Not a pos) (tNot tA) := by
  intro pins s σ H Q I h
  exact isTrue_not (ha pins s σ H (fun c H1 => Q (!c) H1) I h)
/-- .. as values (bools) -/
def tAndV (ta tb : TE) : TE := fun σ H Q => ta σ H fun x H1 => ∃ c, x = .bl c ∧ if c = true then tb σ H1 Q else Q (.bl false) H1
def tOrV (ta tb : TE) : TE := fun σ H Q => ta σ H fun x H1 => ∃ c, x = .bl c ∧ if c = true then Q (.bl true) H1 else tb σ H1 Q
def tNotV (ta : TE) : TE := fun σ H Q => ta σ H fun x H1 => ∃ c, x = .bl c ∧ Q (.bl (!c)) H1
theorem pe_one {op} {t : TE} (h : PE X a t) : PE X (.BoolOp op [a] pos) t := fun pins s σ H Q I hw => BoolOp_one (h pins s σ H Q I hw)
theorem pe_and (ha : PE X a ta) (hb : PE X (.BoolOp .And (b :: rest) pos) tb) : PE X (.BoolOp .And (a :: b :: rest) pos) (tAndV ta tb) := by
  intro pins s σ H Q I h
  refine BoolOp_and (thn (ha pins s σ H _ I h) fun v s1 ⟨x, H1, I1, r1, q1⟩ => ?_)
  obtain ⟨c, rfl, q1⟩ := q1
  cases r1
  refine wpAny_truthy_bool ?_
  cases c with
  | true => exact hb pins s1 σ H1 Q I1 q1
  | false => exact ⟨.bl false, H1, I1, rfl, q1⟩
theorem pe_or (ha : PE X a ta) (hb : PE X (.BoolOp .Or (b :: rest) pos) tb) : PE X (.BoolOp .Or (a :: b :: rest) pos) (tOrV ta tb) := by
  intro pins s σ H Q I h
  refine BoolOp_or (thn (ha pins s σ H _ I h) fun v s1 ⟨x, H1, I1, r1, q1⟩ => ?_)
  obtain ⟨c, rfl, q1⟩ := q1
  cases r1
  refine wpAny_truthy_bool ?_
  cases c with
  | false => exact hb pins s1 σ H1 Q I1 q1
  | true => exact ⟨.bl true, H1, I1, rfl, q1⟩
theorem pe_not (ha : PE X a ta) : PE X (.UnaryOp .Not a pos) (tNotV ta) := by
  intro pins s σ H Q I h
  refine UnaryOp_ (thn (ha pins s σ H _ I h) fun v s1 ⟨x, H1, I1, r1, q1⟩ => ?_)
  obtain ⟨c, rfl, q1⟩ := q1
  cases r1
  exact not_of (wpAny_truthy_bool ⟨.bl (!c), H1, I1, rfl, q1⟩)
/-- a if t else b -/
def tIf (t : TT) (ta tb : TE) : TE := fun σ H Q => t σ H fun c H1 => if c = true then ta σ H1 Q else tb σ H1 Q
theorem pe_ifExp {c : Expr} (hc : PT X c tA) (ha : PE X a ta) (hb : PE X b tb) : PE X (.IfExp c a b pos) (tIf tA ta tb) := by
  intro pins s σ H Q I h
  refine wpAny_IfExp (thn (hc pins s σ H _ I h) fun d s1 ⟨H1, I1, q1⟩ => ?_)
  cases d with
  | true => exact ha pins s1 σ H1 Q I1 q1
  | false => exact hb pins s1 σ H1 Q I1 q1
end
end L2

namespace L2
open PySem PySem.Spec PyProof.Rows

/-! ### a list, a tuple that is read: tracked, frozen, or an object of the module -/
def SqL (K : PySem.W.Frag) (H : Hp) (a : Addr) (xs : List V) : Prop :=
  Rd H a (.lst xs) ∨
    ∃ (o : Obj) (its : Array Value) (n : Nat), K.lookup a = some o ∧ o.cls = .type "list" ∧ o.dict = none ∧ o.data = .seq its n ∧ its.size ≤ sizeLine ∧ Vals xs its.toList
def SqT (K : PySem.W.Frag) (H : Hp) (a : Addr) (xs : List V) : Prop :=
  Rd H a (.tup xs) ∨
    ∃ (o : Obj) (its : Array Value) (n : Nat), K.lookup a = some o ∧ o.cls = .type "tuple" ∧ o.data = .seq its n ∧ its.size ≤ sizeLine ∧ Vals xs its.toList
def absV : Value → Option V
  | .none => some .non
  | .bool b => some (.bl b)
  | .int i _ => some (.int i)
  | .str x _ => some (.str x)
  | .bytes b _ => some (.byt b)
  | .float b _ => some (.flt b)
  | .ref a => some (.ref a)
  | .type n => some (.ty n)
  | _ => none
theorem RelV.abs {x : V} {u : Value} (r : RelV x u) : absV u = some x := by
  cases x with
  | non => cases r; rfl
  | bl _ => cases r; rfl
  | int _ => obtain ⟨t, rfl⟩ := r; rfl
  | str _ => obtain ⟨t, rfl⟩ := r; rfl
  | byt _ => obtain ⟨t, rfl⟩ := r; rfl
  | flt _ => obtain ⟨t, rfl⟩ := r; rfl
  | ref _ => cases r; rfl
  | ty _ => cases r; rfl
theorem RelV.inj {x y : V} {u : Value} (r : RelV x u) (q : RelV y u) : x = y := Option.some.inj (r.abs.symm.trans q.abs)
theorem Vals.inj : ∀ {xs ys : List V} {us : List Value}, Vals xs us → Vals ys us → xs = ys
  | _, _, _, .nil, .nil => rfl
  | _, _, _, .cons r t, .cons r' t' => by rw [r.inj r', Vals.inj t t']
section
variable {X : Cx} {pins : List (Addr × Obj)} {σ : St} {H : Hp} {s : Shared} {a : Addr} {xs ys : List V}
theorem SqL.of {K : PySem.W.Frag} (h : H a = some (.lst xs)) : SqL K H a xs := .inl (.inl h)
theorem SqT.of {K : PySem.W.Frag} (h : H a = some (.tup xs)) : SqT K H a xs := .inl (.inl h)
theorem Inv.list (I : Inv X pins σ H s) (h : SqL X.K H a xs) : ∃ its : List Value, Vals xs its ∧ PlainL s.heap a its.toArray ∧ xs.length ≤ sizeLine := by
  rcases h with h | ⟨o, its, n, hk, hc, hd, hs, hz, r⟩
  · obtain ⟨z, its, n, r, e⟩ := h.ok I.hok
    exact ⟨its, r, ⟨_, n, e, rfl, rfl, rfl⟩, z⟩
  · refine ⟨its.toList, r, ⟨o, n, I.kIn a o hk, hc, hd, by simpa using hs⟩, ?_⟩
    have e := r.length
    simp only [Array.length_toList] at e
    omega
theorem Inv.tuple (I : Inv X pins σ H s) (h : SqT X.K H a xs) : ∃ its : List Value, Vals xs its ∧ IsTup s.heap a its.toArray ∧ xs.length ≤ sizeLine := by
  rcases h with h | ⟨o, its, n, hk, hc, hs, hz, r⟩
  · obtain ⟨z, its, r, p⟩ := h.ok I.hok
    exact ⟨its, r, p, z⟩
  · refine ⟨its.toList, r, ⟨o, I.kIn a o hk, hc, n, by simpa using hs⟩, ?_⟩
    have e := r.length
    simp only [Array.length_toList] at e
    omega
theorem Inv.list_inj (I : Inv X pins σ H s) (h : SqL X.K H a xs) (h' : SqL X.K H a ys) : xs = ys := by
  obtain ⟨its, r, ⟨o, n, e, _, _, d⟩, _⟩ := I.list h
  obtain ⟨its', r', ⟨o', n', e', _, _, d'⟩, _⟩ := I.list h'
  rw [e] at e'; cases e'
  rw [d] at d'
  injection d' with d1 _
  have : its = its' := by simpa using congrArg Array.toList d1
  subst this
  exact r.inj r'
theorem Inv.tuple_inj (I : Inv X pins σ H s) (h : SqT X.K H a xs) (h' : SqT X.K H a ys) : xs = ys := by
  obtain ⟨its, r, ⟨o, e, _, n, d⟩, _⟩ := I.tuple h
  obtain ⟨its', r', ⟨o', e', _, n', d'⟩, _⟩ := I.tuple h'
  rw [e] at e'; cases e'
  rw [d] at d'
  injection d' with d1 _
  have : its = its' := by simpa using congrArg Array.toList d1
  subst this
  exact r.inj r'
end

/-! ### another wish about exceptions -/
abbrev Cx.wish (X : Cx) (E : Value → Shared → Prop) : Cx := { X with xe := E }
/-- no exception leaves -/
abbrev Cx.nox (X : Cx) : Cx := X.wish fun _ _ => False
theorem Cx.Ok.wish {X : Cx} (ok : X.Ok) (E : Value → Shared → Prop) : (X.wish E).Ok :=
  ⟨ok.mod, ok.kind, ok.glob, ok.blt, ok.above, ok.inj, ok.has, ok.cab, ok.hd, ok.frames, ok.stk, ok.exf, ok.bs, ok.bsz, ok.noex, ok.exfs, ok.funs, ok.frf⟩
theorem Cx.Ok.unwish {X : Cx} {E : Value → Shared → Prop} (ok : (X.wish E).Ok) : X.Ok :=
  ⟨ok.mod, ok.kind, ok.glob, ok.blt, ok.above, ok.inj, ok.has, ok.cab, ok.hd, ok.frames, ok.stk, ok.exf, ok.bs, ok.bsz, ok.noex, ok.exfs, ok.funs, ok.frf⟩
section
variable {X : Cx} {pins : List (Addr × Obj)} {σ : St} {H : Hp} {s : Shared} {E : Value → Shared → Prop}
theorem Inv.wish (I : Inv X pins σ H s) (E : Value → Shared → Prop) : Inv (X.wish E) pins σ H s := ⟨I.ok.wish E, I.os, I.bare, I.base, I.loc, I.cell, I.free, I.freeC, I.pin, I.hok, I.len⟩
theorem Inv.unwish (I : Inv (X.wish E) pins σ H s) : Inv X pins σ H s := ⟨I.ok.unwish, I.os, I.bare, I.base, I.loc, I.cell, I.free, I.freeC, I.pin, I.hok, I.len⟩
theorem SP.unwish {D : Ends} {f : Flow} {s' : Shared} (h : SP (X.wish E) pins D f s') : SP X pins D f s' := by
  cases f with
  | next => obtain ⟨σ', H', I, q⟩ := h; exact ⟨σ', H', I.unwish, q⟩
  | brk => obtain ⟨σ', H', I, q⟩ := h; exact ⟨σ', H', I.unwish, q⟩
  | cont => obtain ⟨σ', H', I, q⟩ := h; exact ⟨σ', H', I.unwish, q⟩
  | ret u => obtain ⟨v, σ', H', I, r, q⟩ := h; exact ⟨v, σ', H', I.unwish, r, q⟩
theorem PE.nox {e : Expr} {t : TE} (h : PE X.nox e t) : PE X e t := fun pins s σ H Q I hw =>
  wpAny_mono (h pins s σ H Q (I.wish _) hw) (fun _ _ ⟨v, H', I', r, q⟩ => ⟨v, H', I'.unwish, r, q⟩) fun _ _ z => False.elim z
theorem PT.nox {e : Expr} {t : TT} (h : PT X.nox e t) : PT X e t := fun pins s σ H Q I hw =>
  wpAny_mono (h pins s σ H Q (I.wish _) hw) (fun _ _ ⟨H', I', q⟩ => ⟨H', I'.unwish, q⟩) fun _ _ z => False.elim z
theorem PSs.nox {st : List Stmt} {t : TS} (h : PSs X.nox st t) : PSs X st t := fun pins s σ H D I hw =>
  wpAny_mono (h pins s σ H D (I.wish _) hw) (fun _ _ q => q.unwish) fun _ _ z => False.elim z
end

/-! ### blocks and small statements -/
section
variable {X : Cx} {st : Stmt} {rest : List Stmt} {t u : TS} {e : Expr} {te : TE} {pos : Pos}
def tNext : TS := fun D σ H => D.nx σ H
def tSeq (t u : TS) : TS := fun D σ H => t { D with nx := u D } σ H
theorem pss_nil : PSs X [] tNext := fun _ _ σ H _ I h => wpAny_execs_nil ⟨σ, H, I, h⟩
theorem pss_cons (h1 : PS X st t) (h2 : PSs X rest u) : PSs X (st :: rest) (tSeq t u) := by
  intro pins s σ H D I h
  refine wpAny_execs_cons (thn (h1 pins s σ H { D with nx := u D } I h) fun f s1 q => ?_)
  cases f with
  | next =>
    obtain ⟨σ', H', I', q⟩ := q
    exact h2 pins s1 σ' H' D I' q
  | ret v => exact q
  | brk => exact q
  | cont => exact q
theorem pss_one (h1 : PS X st t) : PSs X [st] t := by
  intro pins s σ H D I h
  refine wpAny_execs_cons (thn (h1 pins s σ H D I h) fun f s1 q => ?_)
  cases f with
  | next => exact wpAny_execs_nil q
  | ret v => exact q
  | brk => exact q
  | cont => exact q
def tBreak : TS := fun D σ H => D.bk σ H
def tCont : TS := fun D σ H => D.ct σ H
theorem ps_pass : PS X (.Pass pos) tNext := fun _ _ σ H _ I h => wpAny_Pass ⟨σ, H, I, h⟩
theorem ps_break : PS X (.Break pos) tBreak := fun _ _ σ H _ I h => wpAny_Break ⟨σ, H, I, h⟩
theorem ps_continue : PS X (.Continue pos) tCont := fun _ _ σ H _ I h => wpAny_Continue ⟨σ, H, I, h⟩
/-- in a def's body nothing is shown -/
theorem Inv.quiet {pins : List (Addr × Obj)} {σ : St} {H : Hp} {s : Shared} (I : Inv X pins σ H s) : interactive X.env = false := by simp [interactive, I.ok.kind]
/-- a docstring -/
theorem ps_doc {x j pos pos'} : PS X (.Expr (.Constant (.str x) j pos) pos') tNext := fun _ s σ H _ I h => wpAny_Expr (Calls.Constant_str (show SP X _ _ .next { s with toks := s.toks + 1 } from ⟨σ, H, I.tok _, h⟩)) I.quiet
/-- an expression whose value is dropped -/
def tDrop (te : TE) : TS := fun D σ H => te σ H fun _ H1 => D.nx σ H1
theorem ps_expr (he : PE X e te) (hs : swapsWith e none pos.line X.env = pure false := by rfl) : PS X (.Expr e pos) (tDrop te) := by
  intro pins s σ H D I h
  exact wpAny_Expr_any (thn (he pins s σ H _ I h) fun v s1 ⟨x, H1, I1, r1, q1⟩ => ⟨σ, H1, I1, q1⟩) I.quiet hs
def tRet (te : TE) : TS := fun D σ H => te σ H D.rt
theorem ps_ret (he : PE X e te) : PS X (.Return (some e) pos) (tRet te) := by
  intro pins s σ H D I h
  exact wpAny_Return_some (thn (he pins s σ H _ I h) fun v s1 ⟨x, H1, I1, r1, q1⟩ => ⟨x, σ, H1, I1, r1, q1⟩)
def tRetN : TS := fun D _ H => D.rt .non H
theorem ps_retN : PS X (.Return none pos) tRetN := fun _ _ σ H _ I h => wpAny_Return_none ⟨.non, σ, H, I, rfl, h⟩
def tIfS (c : TT) (t u : TS) : TS := fun D σ H => c σ H fun b H1 => if b = true then t D σ H1 else u D σ H1
theorem ps_if {c : Expr} {a b : List Stmt} {tc : TT} (hc : PT X c tc) (ha : PSs X a t) (hb : PSs X b u) : PS X (.If c a b pos) (tIfS tc t u) := by
  intro pins s σ H D I h
  refine wpAny_If (thn (hc pins s σ H _ I h) fun d s1 ⟨H1, I1, q1⟩ => ?_)
  cases d with
  | true => exact ha pins s1 σ H1 D I1 q1
  | false => exact hb pins s1 σ H1 D I1 q1
/-- code that the proof never comes to -/
def tNever : TS := fun _ _ _ => False
theorem ps_never : PS X st tNever := fun _ _ _ _ _ _ h => h.elim
theorem pss_never {sts : List Stmt} : PSs X sts tNever := fun _ _ _ _ _ _ h => h.elim
end

/-! ### targets -/
abbrev TG := V → St → Hp → (St → Hp → Prop) → Prop
abbrev TGs := List V → St → Hp → (St → Hp → Prop) → Prop
def PG (X : Cx) (target : Expr) (t : TG) : Prop :=
  ∀ (pins : List (Addr × Obj)) (s : Shared) (σ : St) (H : Hp) (v : V) (u : Value) (Q : St → Hp → Prop), Inv X pins σ H s → RelV v u → t v σ H Q →
    wpAny (model X.prog X.w) X.A (assign target X.env u) (fun _ s' => ∃ σ' H', Inv X pins σ' H' s' ∧ Q σ' H') X.xe s
/-- several targets, one after another -/
def PGs (X : Cx) (ts : List Expr) (t : TGs) : Prop :=
  ∀ (pins : List (Addr × Obj)) (s : Shared) (σ : St) (H : Hp) (vs : List V) (us : List Value) (Q : St → Hp → Prop), Inv X pins σ H s → Vals vs us → t vs σ H Q →
    wpAny (model X.prog X.w) X.A (assignInOrder ((assignEach ts X.env).map (·.2)) us) (fun _ s' => ∃ σ' H', Inv X pins σ' H' s' ∧ Q σ' H') X.xe s
/-- o[i] = v, by values -/
abbrev TSet := V → V → V → Hp → (Hp → Prop) → Prop
def PSet (X : Cx) (t : TSet) : Prop :=
  ∀ (pins : List (Addr × Obj)) (s : Shared) (σ : St) (H : Hp) (o i v : V) (ov iv u : Value) (Q : Hp → Prop), Inv X pins σ H s → RelV o ov → RelV i iv → RelV v u → t o i v H Q →
    wpAny (model X.prog X.w) X.A (setItem ov iv u) (fun _ s' => ∃ H', Inv X pins σ H' s' ∧ Q H') X.xe s
/-- a op= b, by values -/
abbrev TIp := V → V → Hp → VK → Prop
def PIp (X : Cx) (op : Operator) (t : TIp) : Prop :=
  ∀ (pins : List (Addr × Obj)) (s : Shared) (σ : St) (H : Hp) (x y : V) (v u : Value) (Q : VK), Inv X pins σ H s → RelV x v → RelV y u → t x y H Q →
    wpAny (model X.prog X.w) X.A (inplaceOp op v u) (EP X pins σ Q) X.xe s
section
variable {X : Cx} {pos : Pos}
def gName (i : Nat) : TG := fun v σ H Q => Q (σ.set i (some v)) H
theorem pg_name {i : Nat} {x : Str} (hN : X.N.Nodup) (hi : X.N[i]? = some x) (hx : Loc X.env.scope x) (hf : X.fn x = true ∨ X.env.scope.names.lookup x = some .local := by first | exact .inl rfl | exact .inr rfl | assumption) : PG X (.Name x pos) (gName i) := by
  intro pins s σ H v u Q I r h
  exact wpAny_assign_Name (store_ok I hN hi hx r (fun s' I' => ⟨_, H, I', h⟩) hf)
def gNil : TGs := fun vs σ H Q => vs = [] ∧ Q σ H
def gCons (t : TG) (u : TGs) : TGs := fun vs σ H Q => ∃ v r, vs = v :: r ∧ t v σ H fun σ' H' => u r σ' H' Q
theorem pgs_nil : PGs X [] gNil := by
  intro pins s σ H vs us Q I r h
  obtain ⟨e, h⟩ := h
  subst e
  cases r
  exact assignInOrder_nil ⟨σ, H, I, h⟩
theorem pgs_cons {e : Expr} {es : List Expr} {t : TG} {u : TGs} (h1 : PG X e t) (h2 : PGs X es u)
    (hs : (assignEach (e :: es) X.env).map (·.2) = assign e X.env :: (assignEach es X.env).map (·.2) := by rfl) : PGs X (e :: es) (gCons t u) := by
  intro pins s σ H vs us Q I r h
  obtain ⟨v, vr, e1, h⟩ := h
  subst e1
  cases r with
  | cons r rr =>
    rw [hs]
    refine assignInOrder_cons (thn (h1 pins s σ H _ _ _ I r h) fun _ s1 ⟨σ1, H1, I1, q1⟩ => ?_)
    exact h2 pins s1 σ1 H1 _ _ Q I1 rr q1
/-- (a, b, ..) = a tuple of that length -/
def gTup (K : PySem.W.Frag) (n : Nat) (t : TGs) : TG := fun v σ H Q => ∃ a xs, v = .ref a ∧ SqT K H a xs ∧ xs.length = n ∧ t xs σ H Q
theorem pg_tup {es : List Expr} {k : Nat} {t : TGs} {n : Nat} (hc : X.calm = true) (h : PGs X es t)
    (hn : (assignEach es X.env).length = n := by rfl) (hst : (assignEach es X.env).findIdx? (·.1) = none := by rfl) : PG X (.Tuple es k pos) (gTup X.K n t) := by
  intro pins s σ H v u Q I r hw
  obtain ⟨a, xs, e1, hq, hl, hw⟩ := hw
  subst e1
  cases r
  obtain ⟨its, rv, ht, hz⟩ := I.tuple hq
  refine assign_Tuple_tuple (I.ok.hd hc) ht (by simp [hn, ← hl, rv.length]) hst fun h' hx => ?_
  have I1 : Inv X pins σ H { s with heap := h' } := I.kept (t' := s.toks) fun b o e => hx b o (Nat.ne_of_lt (Heap.lt_size e)) e
  exact h pins _ σ H xs _ Q I1 (by simpa using rv) hw
/-- o[i] = .. -/
def gSub (to ti : TE) (t : TSet) : TG := fun v σ H Q => to σ H fun o H1 => ti σ H1 fun i H2 => t o i v H2 fun H3 => Q σ H3
theorem pg_sub {o i : Expr} {to ti : TE} {t : TSet} (ho : PE X o to) (hi : PE X i ti) (hs : PSet X t)
    (ha : ∀ v, assign (.Subscript o i pos) X.env v = (do
      let ov ← holding [v] (eval o X.env)
      let iv ← holding [v, ov] (eval i X.env)
      standAt pos
      holding [v, ov, iv] (setItem ov iv v)
      release [v, ov, iv] []) := by intro _; rfl) : PG X (.Subscript o i pos) (gSub to ti t) := by
  intro pins s σ H v u Q I r h
  rw [ha]
  refine wpAny_bind (wpAny_holding (thn (ho pins s σ H _ I h) fun ov s1 ⟨x, H1, I1, r1, q1⟩ => ?_))
  refine wpAny_bind (wpAny_holding (thn (hi pins s1 σ H1 _ I1 q1) fun iv s2 ⟨y, H2, I2, r2, q2⟩ => ?_))
  refine wpAny_bind (wpAny_standAt (wpAny_bind (wpAny_holding (thn (hs pins s2 σ H2 x y v ov iv u _ I2 r1 r2 r q2) fun _ s3 ⟨H3, I3, q3⟩ => ?_))))
  exact wpAny_release ⟨σ, H3, I3, q3⟩
/-- target = value -/
def tAsg (te : TE) (g : TG) : TS := fun D σ H => te σ H fun x H1 => g x σ H1 D.nx
theorem ps_asg {tg e : Expr} {te : TE} {g : TG} (he : PE X e te) (hg : PG X tg g) (hs : swapsWithSole [tg] e pos.line X.env = pure false := by rfl) (hw : swappedStores [tg] e X.env = pure none := by rfl)
    (h1 : (assignEach [tg] X.env).map (·.2) = [assign tg X.env] := by rfl) : PS X (.Assign [tg] e pos) (tAsg te g) := by
  intro pins s σ H D I h
  refine wpAny_Assign_stores (thn (he pins s σ H _ I h) fun v s1 ⟨x, H1, I1, r1, q1⟩ => ?_) hs hw
  rw [h1]
  exact thn (hg pins s1 σ H1 x v _ I1 r1 q1) fun _ s2 q => q
/-- name = value -/
theorem ps_set {i : Nat} {x : Str} {e : Expr} {te : TE} {pos' : Pos} (hN : X.N.Nodup) (hi : X.N[i]? = some x) (hx : Loc X.env.scope x) (he : PE X e te) (hs : swapsWith e (some (.Name x pos')) pos.line X.env = pure false := by rfl) (hf : X.fn x = true ∨ X.env.scope.names.lookup x = some .local := by first | exact .inl rfl | exact .inr rfl | assumption) :
    PS X (.Assign [.Name x pos'] e pos) (tAsg te (gName i)) := by
  intro pins s σ H D I h
  refine wpAny_Assign_Name (thn (he pins s σ H _ I h) fun v s1 ⟨y, H1, I1, r1, q1⟩ => ?_) hs
  exact store_ok I1 hN hi hx r1 (fun s2 I2 => ⟨_, H1, I2, q1⟩) hf
/-- a, b = x, y with plain local names: stored from the right; the pair itself is not tracked (the opening rows as in PyProof/Rows/TupAssign.lean:23) -/
def tPar (i j : Nat) (ta : TA) : TS := fun D σ H => ta σ H fun vs H1 => ∃ v w, vs = [v, w] ∧ D.nx ((σ.set i (some v)).set j (some w)) H1
theorem ps_par {i j : Nat} {x y : Str} {a b : Expr} {ta : TA} {px py pt : Pos} {kt k2 pt2} (hc : X.calm = true) (hN : X.N.Nodup) (hi : X.N[i]? = some x) (hj : X.N[j]? = some y) (hij : i ≠ j)
    (hx : X.env.scope.names.lookup x = some .local) (hy : X.env.scope.names.lookup y = some .local) (ha : PA X [a, b] ta)
    (hw : swappedStores [.Tuple [.Name x px, .Name y py] kt pt] (.Tuple [a, b] k2 pt2) X.env = pure (some [x, y]))
    (hs : swapsWithSole [.Tuple [.Name x px, .Name y py] kt pt] (.Tuple [a, b] k2 pt2) pos.line X.env = pure false := by rfl) :
    PS X (.Assign [.Tuple [.Name x px, .Name y py] kt pt] (.Tuple [a, b] k2 pt2) pos) (tPar i j ta) := by
  intro pins s σ H D I h
  rw [exec_Assign_arm]
  refine wpAny_bind (wpAny_standAt ?_)
  rw [hs]
  refine wpAny_bind (wpAny_pure ?_)
  rw [if_neg (by decide)]
  refine wpAny_bind (Tuple_ (thn (ha _ pins s σ H _ I h) fun us s1 ⟨vs, H1, I1, r1, q1⟩ => ?_))
  obtain ⟨v, w, e1, q1⟩ := q1
  subst e1
  obtain ⟨u1, u2, rfl, rv, rw'⟩ : ∃ u1 u2, us = [u1, u2] ∧ RelV v u1 ∧ RelV w u2 := by
    cases r1 with
    | cons p q =>
      cases q with
      | cons p' q' =>
        cases q'
        exact ⟨_, _, rfl, p, p'⟩
  refine wpAny_newObj_type ?_ (by show 2 ≤ sizeLine; decide)
  have I2 : Inv X pins σ H1 { s1 with heap := s1.heap.push { cls := .type "tuple", data := .seq [u1, u2].toArray } } := I1.kept (t' := s1.toks) fun b o e => Heap.get?_push_of_some _ e
  rw [hw]
  refine wpAny_bind (wpAny_pure ?_)
  show wpAny (model X.prog X.w) X.A (do rule "assign.swapped-stores"; let items ← unpackItems (.ref s1.heap.objs.size) 2 none; assignInOrder [fun v => bindName X.env y v, fun v => bindName X.env x v] items.reverse; pure Flow.next) _ _ _
  refine wpAny_bind (wpAny_rule (wpAny_bind (unpackItems_tuple (items := #[u1, u2]) (I.ok.hd hc) (IsTup.new s1.heap _) fun h' hx' => ?_)))
  have I3 := I2.kept (h' := h') (t' := s1.toks) fun b o e => hx' b o (Nat.ne_of_lt (Heap.lt_size e)) e
  show wpAny _ _ (assignInOrder [fun v => bindName X.env y v, fun v => bindName X.env x v] [u2, u1] >>= fun _ => pure Flow.next) _ _ _
  refine wpAny_bind (assignInOrder_cons (wpAny_bindName (store_ok I3 hN hj (.inl hy) rw' (fun s2 I4 => ?_) (.inr hy))))
  refine assignInOrder_cons (wpAny_bindName (store_ok I4 hN hi (.inl hx) rv (fun s3 I5 => assignInOrder_nil (wpAny_pure ?_)) (.inr hx)))
  rw [List.set_comm _ _ (Ne.symm hij)] at I5
  exact ⟨_, H1, I5, q1⟩
/-- name op= e -/
def tAug (i : Nat) (te : TE) (ti : TIp) : TS := fun D σ H => ∃ x, σ[i]? = some (some x) ∧ te σ H fun y H1 => ti x y H1 fun z H2 => D.nx (σ.set i (some z)) H2
theorem ps_aug {i : Nat} {x : Str} {e : Expr} {te : TE} {op : Operator} {ti : TIp} {pos' : Pos} (hN : X.N.Nodup) (hi : X.N[i]? = some x) (hx : Loc X.env.scope x) (he : PE X e te) (ho : PIp X op ti) (hf : X.fn x = true ∨ X.env.scope.names.lookup x = some .local := by first | exact .inl rfl | exact .inr rfl | assumption) :
    PS X (.AugAssign (.Name x pos') op e pos) (tAug i te ti) := by
  intro pins s σ H D I h
  obtain ⟨v, e1, h⟩ := h
  obtain ⟨m, hn, hl⟩ := I.loc
  have vis : Vis X.env.scope x := by rcases hx with k | k; exact .inl k; exact .inr (.inl k)
  obtain ⟨u, r, l⟩ := hl i x v hi e1 vis
  refine wpAny_AugAssign_Name ?_
  have go : wpAny (model X.prog X.w) X.A (eval e X.env) (fun w s₂ => wpAny (model X.prog X.w) X.A (inplaceOp op u w) (fun r s₃ => wpAny (model X.prog X.w) X.A (storeName X.env x r) (fun _ => SP X pins D .next) X.xe s₃) X.xe s₂) X.xe s := by
    refine thn (he pins s σ H _ I h) fun w s1 ⟨y, H1, I1, r1, q1⟩ => ?_
    refine thn (ho pins s1 σ H1 v y u w _ I1 r r1 q1) fun z s2 ⟨zv, H2, I2, r2, q2⟩ => ?_
    exact store_ok I2 hN hi hx r2 (fun s3 I3 => ⟨_, H2, I3, q2⟩) hf
  rcases l with ⟨hk, hm⟩ | ⟨hk, c, hc, hcell⟩
  · exact wpAny_loadName_local I.ok.kind hk hn hm go
  · rcases hk with hk | hk
    · exact wpAny_loadName_cell I.ok.kind hk hc hcell go
    · rcases hx with k | k
      · have : X.env.scope.names.lookup x = some .free := hk
        rw [k] at this; cases this
      · have : X.env.scope.names.lookup x = some .free := hk
        rw [k] at this; cases this
/-- o[i] op= e -/
def tAugS (to ti te : TE) (tget : V → V → Hp → VK → Prop) (tip : TIp) (tset : TSet) : TS := fun D σ H => to σ H fun o H1 => ti σ H1 fun i H2 => tget o i H2 fun x H3 => te σ H3 fun y H4 => tip x y H4 fun z H5 => tset o i z H5 fun H6 => D.nx σ H6
/-- o[i], by values -/
def PGet (X : Cx) (t : V → V → Hp → VK → Prop) : Prop :=
  ∀ (pins : List (Addr × Obj)) (s : Shared) (σ : St) (H : Hp) (o i : V) (ov iv : Value) (Q : VK), Inv X pins σ H s → RelV o ov → RelV i iv → t o i H Q →
    wpAny (model X.prog X.w) X.A (getItem ov iv) (EP X pins σ Q) X.xe s
theorem ps_augS {o i e : Expr} {to ti te : TE} {tget : V → V → Hp → VK → Prop} {tip : TIp} {tset : TSet} {op : Operator} {tpos : Pos} (ho : PE X o to) (hi : PE X i ti) (hg : PGet X tget) (he : PE X e te) (hp : PIp X op tip) (hs : PSet X tset)
    (ha : ∀ ov iv new, augStore i ov iv new = (do holding [new, ov, iv] (setItem ov iv new); release [new, ov, iv] []; pure .next) := by intros; rfl) : PS X (.AugAssign (.Subscript o i tpos) op e pos) (tAugS to ti te tget tip tset) := by
  intro pins s σ H D I h
  refine wpAny_AugAssign_SubscriptAny (thn (ho pins s σ H _ I h) fun ov s1 ⟨x1, H1, I1, r1, q1⟩ => ?_) ha
  refine thn (hi pins s1 σ H1 _ I1 q1) fun iv s2 ⟨x2, H2, I2, r2, q2⟩ => ?_
  refine thn (hg pins s2 σ H2 x1 x2 ov iv _ I2 r1 r2 q2) fun old s3 ⟨x3, H3, I3, r3, q3⟩ => ?_
  refine thn (he pins s3 σ H3 _ I3 q3) fun v s4 ⟨x4, H4, I4, r4, q4⟩ => ?_
  refine thn (hp pins s4 σ H4 x3 x4 old v _ I4 r3 r4 q4) fun new s5 ⟨x5, H5, I5, r5, q5⟩ => ?_
  exact thn (hs pins s5 σ H5 x1 x2 x5 ov iv new _ I5 r1 r2 r5 q5) fun _ s6 ⟨H6, I6, q6⟩ => ⟨σ, H6, I6, q6⟩
/-- ints -/
def ipI (f : Int → Int → Int) : TIp := fun x y H Q => ∃ i j, x = .int i ∧ y = .int j ∧ Q (.int (f i j)) H
theorem ip_add : PIp X .Add (ipI fun i j => i + j) := by
  intro pins s σ H x y v u Q I r1 r2 h
  obtain ⟨i, j, e1, e2, q⟩ := h
  subst e1; subst e2
  obtain ⟨t, rfl⟩ := r1
  obtain ⟨t', rfl⟩ := r2
  exact iadd_int ⟨.int _, H, I.tok _, ⟨_, rfl⟩, q⟩
theorem ip_sub : PIp X .Sub (ipI fun i j => i - j) := by
  intro pins s σ H x y v u Q I r1 r2 h
  obtain ⟨i, j, e1, e2, q⟩ := h
  subst e1; subst e2
  obtain ⟨t, rfl⟩ := r1
  obtain ⟨t', rfl⟩ := r2
  exact isub_int ⟨.int _, H, I.tok _, ⟨_, rfl⟩, q⟩
end

/-! ### while -/
section
variable {X : Cx} {pos : Pos}
/-- the invariant W with its measure -/
def tWhile (c : TT) (tb : TS) : TS := fun D σ H => ∃ W : Nat → St → Hp → Prop, (∃ m, W m σ H) ∧ ∀ m σ H, W m σ H →
  c σ H fun b H1 => if b = true then ∃ N : St → Hp → Prop, (∀ σ' H', N σ' H' → ∃ m', m' < m ∧ W m' σ' H') ∧ tb { D with nx := N, ct := N, bk := D.nx } σ H1 else D.nx σ H1
theorem ps_while {c : Expr} {body : List Stmt} {tc : TT} {tb : TS} (hp : PassesOwn (model X.prog X.w) X.A X.env X.xe) (hc : PT X c tc) (hb : PSs X body tb) : PS X (.While c body [] pos) (tWhile tc tb) := by
  intro pins s σ H D I h
  obtain ⟨W, ⟨m0, w0⟩, turn⟩ := h
  refine wpAny_While (codeAny_whileLoop (fun n s' => ∃ σ' H', Inv X pins σ' H' s' ∧ W n σ' H') ?_ m0 ⟨σ, H, I, w0⟩)
  rintro n s1 ⟨σ1, H1, I1, w1⟩
  refine wpAny_passesOwn hp (thn (hc pins s1 σ1 H1 _ I1 (turn n σ1 H1 w1)) fun b s2 ⟨H2, I2, q2⟩ => ?_)
  cases b with
  | true =>
    obtain ⟨N, hN, q2⟩ := q2
    rw [if_pos rfl]
    refine wpAny_passesOwn hp (thn (hb pins s2 σ1 H2 _ I2 q2) fun f s3 q3 => ?_)
    cases f with
    | next =>
      obtain ⟨σ3, H3, I3, n3⟩ := q3
      obtain ⟨m', hm, w3⟩ := hN σ3 H3 n3
      exact ⟨m', hm, σ3, H3, I3, w3⟩
    | cont =>
      obtain ⟨σ3, H3, I3, n3⟩ := q3
      obtain ⟨m', hm, w3⟩ := hN σ3 H3 n3
      exact ⟨m', hm, σ3, H3, I3, w3⟩
    | brk => exact q3
    | ret v => exact q3
  | false =>
    rw [if_neg Bool.false_ne_true]
    exact wpAny_execs_nil ⟨σ1, H2, I2, q2⟩
end

/-! ### what a loop or a comprehension walks -/
/-- at turn i: it yields x (the heap may grow), or it stops -/
structure It where
  go : Nat → Hp → Prop
  yld : Nat → Hp → V → Hp → Prop
  stop : Nat → Hp → Prop
/-- the iterator's own objects may turn: they are not the frame's, not pinned, younger than the entry (or a comprehension's own) -/
def FpOk (X : Cx) (pins : List (Addr × Obj)) (H : Hp) (b : Addr) : Prop :=
  H b = none ∧ b ≠ X.env.locals ∧ b ∉ X.fs ∧ (b ∈ X.ex ∨ X.s₀.heap.objs.size ≤ b) ∧ (∀ x c, X.env.cells.lookup x = some c → c ≠ b) ∧ ∀ p ∈ X.pn ++ pins, p.1 ≠ b
theorem Inv.fpOk {X : Cx} {pins : List (Addr × Obj)} {σ : St} {H H' : Hp} {s : Shared} {b : Addr} (I : Inv X pins σ H s) (hb : s.heap.objs.size ≤ b) (hn : H' b = none) : FpOk X pins H' b := by
  refine ⟨hn, Nat.ne_of_gt (Nat.lt_of_lt_of_le I.lt hb), I.nofs hb, .inr (Nat.le_trans I.sz hb), fun x c e z => ?_, fun p hp z => ?_⟩
  · obtain ⟨v, q⟩ := I.cell x c e
    exact absurd (Nat.lt_of_lt_of_le q.lt (by rw [z]; exact hb)) (Nat.lt_irrefl _)
  · exact absurd (Nat.lt_of_lt_of_le (Heap.lt_size (I.pin p hp).1) (by rw [z]; exact hb)) (Nat.lt_irrefl _)
structure Turn (P : Program) (w : World) (K : PySem.W.Frag) (tg : Expr) (J : It) (fp : List Addr) (it : Addr) (tn : Nat → Heap → Prop) : Prop where
  mem : it ∈ fp
  obj : ∀ i h, tn i h → ∀ b ∈ fp, ∃ o, h.get? b = some o ∧ ∀ v, o.data ≠ .cell v
  keep : ∀ i h h', tn i h → (∀ b ∈ fp, ∀ o, h.get? b = some o → h'.get? b = some o) → tn i h'
  item : ∀ (X : Cx), X.prog = P → X.w = w → X.K = K → X.calm = true → ∀ (i : Nat) (pins : List (Addr × Obj)) (s : Shared) (σ : St) (H : Hp) (E : Value → Shared → Prop), Inv X pins σ H s → (∀ b ∈ fp, FpOk X pins H b) → tn i s.heap → J.go i H →
    wpAny (model P w) X.A (pyNext (.ref it)) (fun r s1 => ∃ u, r = some u ∧
      wpAny (model P w) X.A (letOwnedTupleGo tg (.ref it) u) (fun _ s2 => ∃ x H', Inv X pins σ H' s2 ∧ RelV x u ∧ J.yld i H x H' ∧ tn (i + 1) s2.heap ∧ ∀ b ∈ fp, H' b = none) E s1) E s
  done : ∀ (X : Cx), X.prog = P → X.w = w → X.K = K → X.calm = true → ∀ (i : Nat) (pins : List (Addr × Obj)) (s : Shared) (σ : St) (H : Hp) (E : Value → Shared → Prop), Inv X pins σ H s → (∀ b ∈ fp, FpOk X pins H b) → tn i s.heap → J.stop i H →
    wpAny (model P w) X.A (pyNext (.ref it)) (fun r s1 => r = none ∧ Inv X pins σ H s1) E s
  self : ∀ (A : Around) (i : Nat) (s : Shared) (Q : Value → Shared → Prop) (E : Value → Shared → Prop), tn i s.heap → Q (.ref it) s → wpAny (model P w) A (pyIter (.ref it)) Q E s
abbrev TI := St → Hp → (It → Hp → Prop) → Prop
/-- an iterator has come -/
def PIE (X : Cx) (pins : List (Addr × Obj)) (σ : St) (tg : Expr) (R : It → Hp → Prop) (itv : Value) (s2 : Shared) : Prop :=
  ∃ (it : Addr) (fp : List Addr) (tn : Nat → Heap → Prop) (J : It) (H' : Hp), itv = .ref it ∧ Inv X pins σ H' s2 ∧ Turn X.prog X.w X.K tg J fp it tn ∧ tn 0 s2.heap ∧ (∀ b ∈ fp, FpOk X pins H' b) ∧ R J H'
def PI (X : Cx) (tg iter : Expr) (wi : TI) : Prop :=
  ∀ (pins : List (Addr × Obj)) (s : Shared) (σ : St) (H : Hp) (R : It → Hp → Prop), Inv X pins σ H s → wi σ H R →
    wpAny (model X.prog X.w) X.A (eval iter X.env) (fun v s1 => wpAny (model X.prog X.w) X.A (pyIter v) (PIE X pins σ tg R) X.xe s1) X.xe s

/-- the step ahead of the store is nothing for an iterator that keeps no tuple -/
theorem go_of {M : Model} {A : Around} {E : Value → Shared → Prop} {s : Shared} {tg : Expr} {it : Addr} {u : Value} {o : Obj} {n : String} {vs : Array Value} {Q : Unit → Shared → Prop} (ho : s.heap.get? it = some o) (hc : o.cls = .type n) (hd : o.data = .fields vs)
    (hn : ["enumerate", "zip", "dict_itemiterator", "dict_reverseitemiterator", "odict_iterator", "itertools.zip_longest", "itertools.pairwise"].contains n = false) (hQ : Q () s) : wpAny M A (letOwnedTupleGo tg (.ref it) u) Q E s := by
  unfold letOwnedTupleGo
  cases tg <;> first
    | exact wpAny_pure hQ
    | (cases u <;> first
        | exact wpAny_pure hQ
        | (refine wpAny_bind (wpAny_load ho ?_)
           rw [hc, hd]
           show wpAny M A (if (["enumerate", "zip", "dict_itemiterator", "dict_reverseitemiterator", "odict_iterator", "itertools.zip_longest", "itertools.pairwise"].contains n && vs[0]? == some (rawInt _)) = true then _ else _) Q E s
           rw [if_neg (by intro h; rw [hn, Bool.false_and] at h; cases h)]
           exact wpAny_pure hQ))

/-- the list at a, as it stands at each turn (a loop may append to it) -/
def Itl (K : PySem.W.Frag) (a : Addr) : It :=
  ⟨fun i H => ∃ xs x, SqL K H a xs ∧ xs[i]? = some x, fun i H x H' => H' = H ∧ ∀ xs, SqL K H a xs → xs[i]? = some x, fun i H => ∃ xs, SqL K H a xs ∧ xs.length ≤ i⟩
def Itt (K : PySem.W.Frag) (a : Addr) : It :=
  ⟨fun i H => ∃ xs x, SqT K H a xs ∧ xs[i]? = some x, fun i H x H' => H' = H ∧ ∀ xs, SqT K H a xs → xs[i]? = some x, fun i H => ∃ xs, SqT K H a xs ∧ xs.length ≤ i⟩
/-- lo, lo + 1, .. (n of them) -/
def Itr (lo : Int) (n : Nat) : It := ⟨fun i _ => i < n, fun i H x H' => H' = H ∧ x = .int (lo + i), fun i _ => n ≤ i⟩
theorem turn_list {P : Program} {w : World} {K : PySem.W.Frag} {tg : Expr} (a it : Addr) : Turn P w K tg (Itl K a) [it] it (fun i h => h.IsListIter it a i) where
  mem := by simp
  obj := fun i h st b hb => by
    have e : b = it := by simpa using hb
    subst e
    obtain ⟨o, e, c, d⟩ := st
    exact ⟨o, e, fun v z => by rw [d] at z; cases z⟩
  keep := fun i h h' st k => st.at fun o e => k it (by simp) o e
  item := by
    intro X hP hw hK hc i pins s σ H E I hf st hg
    subst hP hw hK
    obtain ⟨xs, x, hq, hx⟩ := hg
    obtain ⟨its, rv, p, hz⟩ := I.list hq
    obtain ⟨u, hu, ru⟩ := rv.get hx
    obtain ⟨f0, f1, f2, f3, f4, f5⟩ := hf it (by simp)
    refine wpAny_pyNext_list_item st p.isList (x := u) (by simpa using hu) fun h' st' sb => ?_
    have I1 : Inv X pins σ H { s with heap := h' } := I.turned (t' := s.toks) (fun b o hb e => (sb.2 b hb).trans e) f0 f1 f3 f4 f5
    obtain ⟨o, e, c, d⟩ := id st'
    exact ⟨u, rfl, go_of (s := { s with heap := h' }) e c d (by decide) ⟨x, H, I1, ru, ⟨rfl, fun ys hy => by rw [I.list_inj hy hq]; exact hx⟩, st', fun b hb => (hf b hb).1⟩⟩
  done := by
    intro X hP hw hK hc i pins s σ H E I hf st hg
    subst hP hw hK
    obtain ⟨xs, hq, hx⟩ := hg
    obtain ⟨its, rv, p, hz⟩ := I.list hq
    obtain ⟨f0, f1, f2, f3, f4, f5⟩ := hf it (by simp)
    have hl := rv.length
    exact wpAny_pyNext_list_end (I.ok.hd hc) st p.isList (by simp; omega) fun h' eb => ⟨rfl, I.turned (t' := s.toks) (fun b o hb e => eb b o hb e) f0 f1 f3 f4 f5⟩
  self := fun _ _ _ _ _ st h => wpAny_pyIter_listiter st h
theorem turn_tuple {P : Program} {w : World} {K : PySem.W.Frag} {tg : Expr} (a it : Addr) : Turn P w K tg (Itt K a) [it] it (fun i h => h.IsTupleIter it a i) where
  mem := by simp
  obj := fun i h st b hb => by
    have e : b = it := by simpa using hb
    subst e
    obtain ⟨o, e, c, d⟩ := st
    exact ⟨o, e, fun v z => by rw [d] at z; cases z⟩
  keep := fun i h h' st k => st.at fun o e => k it (by simp) o e
  item := by
    intro X hP hw hK hc i pins s σ H E I hf st hg
    subst hP hw hK
    obtain ⟨xs, x, hq, hx⟩ := hg
    obtain ⟨its, rv, p, hz⟩ := I.tuple hq
    obtain ⟨u, hu, ru⟩ := rv.get hx
    obtain ⟨f0, f1, f2, f3, f4, f5⟩ := hf it (by simp)
    refine wpAny_pyNext_tuple_item st (show s.heap.IsTuple a its.toArray from p) (x := u) (by simpa using hu) fun h' st' sb => ?_
    have I1 : Inv X pins σ H { s with heap := h' } := I.turned (t' := s.toks) (fun b o hb e => (sb.2 b hb).trans e) f0 f1 f3 f4 f5
    obtain ⟨o, e, c, d⟩ := id st'
    exact ⟨u, rfl, go_of (s := { s with heap := h' }) e c d (by decide) ⟨x, H, I1, ru, ⟨rfl, fun ys hy => by rw [I.tuple_inj hy hq]; exact hx⟩, st', fun b hb => (hf b hb).1⟩⟩
  done := by
    intro X hP hw hK hc i pins s σ H E I hf st hg
    subst hP hw hK
    obtain ⟨xs, hq, hx⟩ := hg
    obtain ⟨its, rv, p, hz⟩ := I.tuple hq
    obtain ⟨f0, f1, f2, f3, f4, f5⟩ := hf it (by simp)
    have hl := rv.length
    exact wpAny_pyNext_tuple_end (I.ok.hd hc) st (show s.heap.IsTuple a its.toArray from p) (by simp; omega) fun h' eb => ⟨rfl, I.turned (t' := s.toks) (fun b o hb e => eb b o hb e) f0 f1 f3 f4 f5⟩
  self := fun _ _ _ _ _ st h => wpAny_pyIter_tupleiter st h
theorem turn_range {P : Program} {w : World} {K : PySem.W.Frag} {tg : Expr} (it : Addr) (lo : Int) (n : Nat) : Turn P w K tg (Itr lo n) [it] it (fun i h => IsRangeIter h it (lo + (i : Nat) * 1) ((n : Int) - (i : Nat)) 1) where
  mem := by simp
  obj := fun i h st b hb => by
    have e : b = it := by simpa using hb
    subst e
    exact ⟨_, st, fun v z => by
      have z' : Data.fields _ = Data.cell v := z
      cases z'⟩
  keep := fun i h h' st k => k it (by simp) _ st
  item := by
    intro X hP hw hK hc i pins s σ H E I hf st hg
    subst hP hw hK
    obtain ⟨f0, f1, f2, f3, f4, f5⟩ := hf it (by simp)
    have W := Walks.range (prog := X.prog) (w := X.w) (I.ok.hd hc) it lo 1 n
    refine W.item i s _ _ hg st fun v h' tk hv st' kk => ?_
    obtain ⟨t, rfl⟩ := hv
    have I1 : Inv X pins σ H { s with heap := h', toks := tk } := I.turned (fun b o hb e => kk b o (by simpa using hb) e) f0 f1 f3 f4 f5
    refine ⟨_, rfl, go_of (s := { s with heap := h', toks := tk }) (n := "range_iterator") st' rfl rfl (by decide) ⟨.int (lo + i), H, I1, ⟨t, ?_⟩, ⟨rfl, rfl⟩, st', fun b hb => (hf b hb).1⟩⟩
    rw [Int.mul_one]
  done := by
    intro X hP hw hK hc i pins s σ H E I hf st hg
    subst hP hw hK
    obtain ⟨f0, f1, f2, f3, f4, f5⟩ := hf it (by simp)
    exact wpAny_pyNext_range_end (I.ok.hd hc) st (by have : n ≤ i := hg; omega) fun h' eb => ⟨rfl, I.turned (t' := s.toks) (fun b o hb e => eb b o hb e) f0 f1 f3 f4 f5⟩
  self := fun _ _ _ _ _ st h => wpAny_pyIter_rangeiter st h
end L2

namespace L2
open PySem PySem.Spec PyProof.Rows
section
variable {X : Cx} {tg : Expr}
def iList (K : PySem.W.Frag) (tl : TE) : TI := fun σ H R => tl σ H fun x H1 => ∃ a, x = .ref a ∧ (∃ xs, SqL K H1 a xs) ∧ R (Itl K a) H1
def iTup (K : PySem.W.Frag) (tl : TE) : TI := fun σ H R => tl σ H fun x H1 => ∃ a, x = .ref a ∧ (∃ xs, SqT K H1 a xs) ∧ R (Itt K a) H1
theorem pi_list {l : Expr} {tl : TE} (hl : PE X l tl) : PI X tg l (iList X.K tl) := by
  intro pins s σ H R I h
  refine thn (hl pins s σ H _ I h) fun v s1 ⟨x, H1, I1, r1, q1⟩ => ?_
  obtain ⟨a, e, ⟨xs, hq⟩, q⟩ := q1
  subst e
  cases r1
  obtain ⟨its, rv, p, hz⟩ := I1.list hq
  refine wpAny_pyIter_list p.isList ?_
  refine ⟨s1.heap.objs.size, [s1.heap.objs.size], _, _, H1, rfl, I1.kept (t' := s1.toks) fun b o e => Heap.get?_push_of_some _ e, turn_list a _, ⟨_, Heap.get?_push_size _ rfl, rfl, rfl⟩, fun b hb => ?_, q⟩
  have e : b = s1.heap.objs.size := by simpa using hb
  subst e
  exact I1.fpOk (Nat.le_refl _) (I1.hok.fresh (Nat.le_refl _))
theorem pi_tup {l : Expr} {tl : TE} (hl : PE X l tl) : PI X tg l (iTup X.K tl) := by
  intro pins s σ H R I h
  refine thn (hl pins s σ H _ I h) fun v s1 ⟨x, H1, I1, r1, q1⟩ => ?_
  obtain ⟨a, e, ⟨xs, hq⟩, q⟩ := q1
  subst e
  cases r1
  obtain ⟨its, rv, p, hz⟩ := I1.tuple hq
  refine wpAny_pyIter_tuple (show s1.heap.IsTuple a its.toArray from p) ?_
  refine ⟨s1.heap.objs.size, [s1.heap.objs.size], _, _, H1, rfl, I1.kept (t' := s1.toks) fun b o e => Heap.get?_push_of_some _ e, turn_tuple a _, ⟨_, Heap.get?_push_size _ rfl, rfl, rfl⟩, fun b hb => ?_, q⟩
  have e : b = s1.heap.objs.size := by simpa using hb
  subst e
  exact I1.fpOk (Nat.le_refl _) (I1.hok.fresh (Nat.le_refl _))
/-- a range object just made, walked -/
theorem range_it {pins : List (Addr × Obj)} {σ : St} {H : Hp} {s : Shared} {R : It → Hp → Prop} {E : Value → Shared → Prop} {lo hi : Int} {t u v : Tok} {tk : Nat} (I : Inv X pins σ H s) (h1 : -(2 ^ 62) ≤ lo) (h2 : lo < 2 ^ 62) (h3 : -(2 ^ 62) ≤ hi) (h4 : hi < 2 ^ 62)
    (q : R (Itr lo (hi - lo).toNat) H) : wpAny (model X.prog X.w) X.A (pyIter (.ref s.heap.objs.size)) (PIE X pins σ tg R) E { s with heap := s.heap.push { cls := .type "range", data := .fields #[.int lo t, .int hi u, .int 1 v] }, toks := tk } := by
  refine wpAny_pyIter_range (IsRange.new ..) (small_one h1 h2 h3 h4) ?_
  have I1 : Inv X pins σ H { s with heap := s.heap.push { cls := .type "range", data := .fields #[.int lo t, .int hi u, .int 1 v] }, toks := tk } := I.kept fun b o e => Heap.get?_push_of_some _ e
  refine ⟨(s.heap.push { cls := .type "range", data := .fields #[.int lo t, .int hi u, .int 1 v] }).objs.size, [(s.heap.push { cls := .type "range", data := .fields #[.int lo t, .int hi u, .int 1 v] }).objs.size], _, _, H, rfl,
    I1.kept (t' := tk) fun b o e => Heap.get?_push_of_some _ e, turn_range _ lo (hi - lo).toNat, ?_, fun b hb => ?_, q⟩
  · have e1 : lo + ((0 : Nat) : Int) * 1 = lo := by simp
    have e2 : (((hi - lo).toNat : Nat) : Int) - ((0 : Nat) : Int) = Builtin.Range.rangeSize lo hi 1 := by rw [rangeSize_one]; split <;> omega
    show IsRangeIter _ _ (lo + ((0 : Nat) : Int) * 1) ((((hi - lo).toNat : Nat) : Int) - ((0 : Nat) : Int)) 1
    rw [e1, e2]
    exact Heap.get?_push_size _ rfl
  · have e : b = (s.heap.push { cls := .type "range", data := .fields #[.int lo t, .int hi u, .int 1 v] }).objs.size := by simpa using hb
    subst e
    exact I1.fpOk (Nat.le_refl _) (I1.hok.fresh (Nat.le_refl _))
def iRng1 (ta : TA) : TI := fun σ H R => ta σ H fun vs H1 => ∃ j : Int, vs = [.int j] ∧ -(2 ^ 62) ≤ j ∧ j < 2 ^ 62 ∧ R (Itr 0 j.toNat) H1
def iRng2 (ta : TA) : TI := fun σ H R => ta σ H fun vs H1 => ∃ i j : Int, vs = [.int i, .int j] ∧ (-(2 ^ 62) ≤ i ∧ i < 2 ^ 62 ∧ -(2 ^ 62) ≤ j ∧ j < 2 ^ 62) ∧ R (Itr i (j - i).toNat) H1
theorem pi_range1 {a : Expr} {ta : TA} {p pos : Pos} (hg : Gl X "range") (hm : X.mg "range" = none) (ha : PA X [a] ta) (hs : starEach [a] X.env = [(false, eval a X.env)] := by rfl) : PI X tg (.Call (.Name "range" p) [a] [] pos) (iRng1 ta) := by
  intro pins s σ H R I h
  refine Call_ (ld_blt I hg hm boot_range (PyProof.Rows.callWith_type1 (thn (ha pos pins s σ H _ I h) fun us s1 ⟨vs, H1, I1, r1, q1⟩ => ?_) hs rfl))
  obtain ⟨j, e, q1, q2, q⟩ := q1
  subst e
  cases r1 with
  | cons r rr =>
    cases rr
    obtain ⟨t, rfl⟩ := r
    exact call_range_1 (range_it I1 (by omega) (by omega) q1 q2 (by simpa using q))
theorem pi_range2 {a b : Expr} {ta : TA} {p pos : Pos} (hg : Gl X "range") (hm : X.mg "range" = none) (ha : PA X [a, b] ta) (hs : starEach [a, b] X.env = [(false, eval a X.env), (false, eval b X.env)] := by rfl) (hs2 : starEach [b] X.env = [(false, eval b X.env)] := by rfl) :
    PI X tg (.Call (.Name "range" p) [a, b] [] pos) (iRng2 ta) := by
  intro pins s σ H R I h
  refine Call_ (ld_blt I hg hm boot_range (PyProof.Rows.callWith_type1 (thn (ha pos pins s σ H _ I h) fun us s1 ⟨vs, H1, I1, r1, q1⟩ => ?_) (by rw [hs, hs2]) (by rw [hs2]; rfl)))
  obtain ⟨i, j, e, ⟨q1, q2, q3, q4⟩, q⟩ := q1
  subst e
  cases r1 with
  | cons r rr =>
    cases rr with
    | cons r' rr =>
      cases rr
      obtain ⟨t, rfl⟩ := r
      obtain ⟨t', rfl⟩ := r'
      exact call_range_2 (range_it I1 q1 q2 q3 q4 q)

/-! ### for -/
/-- W: the invariant by the turn and a measure; N: what the body is to reach -/
def tFor (wi : TI) (g : TG) (tb : TS) : TS := fun D σ H => wi σ H fun J H1 => ∃ W : Nat → Nat → St → Hp → Prop, (∃ m, W 0 m σ H1) ∧ ∀ i m σ H, W i m σ H →
  (J.stop i H ∧ D.nx σ H) ∨ (J.go i H ∧ ∃ N : St → Hp → Prop, (∀ σ' H', N σ' H' → ∃ m', m' < m ∧ W (i + 1) m' σ' H') ∧ ∀ x H', J.yld i H x H' → g x σ H' fun σ2 H2 => tb { D with nx := N, ct := N, bk := D.nx } σ2 H2)
/-- the records at fp as they stand -/
def pinsAt (fp : List Addr) (h : Heap) : List (Addr × Obj) := fp.filterMap fun b => (h.get? b).map fun o => (b, o)
theorem mem_pinsAt {fp : List Addr} {h : Heap} {b : Addr} {o : Obj} (hb : b ∈ fp) (e : h.get? b = some o) : (b, o) ∈ pinsAt fp h := List.mem_filterMap.mpr ⟨b, hb, by rw [e]; rfl⟩
theorem of_pinsAt {fp : List Addr} {h : Heap} {p : Addr × Obj} (hp : p ∈ pinsAt fp h) : p.1 ∈ fp ∧ h.get? p.1 = some p.2 := by
  obtain ⟨b, hb, e⟩ := List.mem_filterMap.mp hp
  cases q : h.get? b with
  | none => rw [q] at e; cases e
  | some o =>
    rw [q] at e
    have e' : (b, o) = p := Option.some.inj e
    subst e'
    exact ⟨hb, q⟩
theorem Inv.pinned {pins : List (Addr × Obj)} {σ : St} {H : Hp} {s : Shared} {fp : List Addr} (I : Inv X pins σ H s) (hf : ∀ b ∈ fp, FpOk X pins H b) (ho : ∀ b ∈ fp, ∃ o, s.heap.get? b = some o ∧ ∀ v, o.data ≠ .cell v) : Inv X (pins ++ pinsAt fp s.heap) σ H s :=
  I.pins_of fun p hp => (List.mem_append.mp hp).elim (fun z => I.pin p (List.mem_append_right _ z)) fun z => by
    obtain ⟨hb, e⟩ := of_pinsAt z
    obtain ⟨f0, f1, f2, _⟩ := hf p.1 hb
    obtain ⟨o, e', d⟩ := ho p.1 hb
    rw [e] at e'; cases e'
    exact ⟨e, f0, f1, f2, d⟩
theorem Inv.unpinned {pins pl : List (Addr × Obj)} {σ : St} {H : Hp} {s : Shared} (I : Inv X (pins ++ pl) σ H s) : Inv X pins σ H s := I.pins_of fun p hp => I.pin p (List.mem_append_right _ (List.mem_append_left _ hp))
theorem ps_for {iter : Expr} {body : List Stmt} {wi : TI} {g : TG} {tb : TS} {pos : Pos} (hp : PassesOwn (model X.prog X.w) X.A X.env X.xe) (hc : X.calm = true) (hi : PI X tg iter wi) (hg : PG X tg g) (hb : PSs X body tb)
    (hs : ∀ x, foldedSetIterable iter X.env x = pure x := by intro _; rfl) : PS X (.For tg iter body [] pos) (tFor wi g tb) := by
  intro pins s σ H D I h
  refine wpAny_For (thn (hi pins s σ H _ I h) fun v s1 h1 => thn h1 fun itv s2 h2 => ?_) hs
  obtain ⟨it, fp, tn, J, H2, e, I2, T, st2, f2, W, ⟨m0, w0⟩, turn⟩ := h2
  subst e
  -- what stays true of the iterator's objects through the loop
  have stat : ∀ {H' : Hp}, (∀ b ∈ fp, H' b = none) → ∀ b ∈ fp, FpOk X pins H' b := fun hn b hb => ⟨hn b hb, (f2 b hb).2⟩
  refine codeAny_forLoop_any (fun n s' => ∃ i σ' H', Inv X pins σ' H' s' ∧ tn i s'.heap ∧ (∀ b ∈ fp, H' b = none) ∧ W i n σ' H') ?_ m0 ⟨0, σ, H2, I2, st2, fun b hb => (f2 b hb).1, w0⟩
  rintro n s3 ⟨i, σ3, H3, I3, st3, fr3, w3⟩
  rcases turn i n σ3 H3 w3 with ⟨stop, qn⟩ | ⟨go, N, hN, step⟩
  · refine wpAny_passesOwn hp (thn (T.done X rfl rfl rfl hc i pins s3 σ3 H3 X.xe I3 (stat fr3) st3 stop) fun r s4 ⟨hr, I4⟩ => ?_)
    subst hr
    exact wpAny_execs_nil ⟨σ3, H3, I4, qn⟩
  · refine wpAny_passesOwn hp (thn (T.item X rfl rfl rfl hc i pins s3 σ3 H3 X.xe I3 (stat fr3) st3 go) fun r s4 ⟨u, hr, h4⟩ => ?_)
    subst hr
    refine wpAny_passesOwn hp (thn h4 fun _ s5 ⟨x, H5, I5, r5, y5, st5, fr5⟩ => ?_)
    have I5' := I5.pinned (stat fr5) (T.obj _ _ st5)
    refine wpAny_passesOwn hp (thn (hg _ s5 σ3 H5 x u _ I5' r5 (step x H5 y5)) fun _ s6 ⟨σ6, H6, I6, q6⟩ => ?_)
    refine wpAny_passesOwn hp (thn (hb _ s6 σ6 H6 _ I6 q6) fun f s7 q7 => ?_)
    have again : ∀ {σ7 : St} {H7 : Hp}, Inv X (pins ++ pinsAt fp s5.heap) σ7 H7 s7 → N σ7 H7 → ∃ m, m < n ∧ ∃ i σ' H', Inv X pins σ' H' s7 ∧ tn i s7.heap ∧ (∀ b ∈ fp, H' b = none) ∧ W i m σ' H' := fun {σ7 H7} I7 n7 => by
      obtain ⟨m', hm, w7⟩ := hN σ7 H7 n7
      refine ⟨m', hm, i + 1, σ7, H7, I7.unpinned, T.keep _ _ _ st5 fun b hb o e => (I7.pin (b, o) (List.mem_append_right _ (List.mem_append_right _ (mem_pinsAt hb e)))).1, fun b hb => ?_, w7⟩
      obtain ⟨o, e, d⟩ := T.obj _ _ st5 b hb
      exact (I7.pin (b, o) (List.mem_append_right _ (List.mem_append_right _ (mem_pinsAt hb e)))).2.1
    cases f with
    | next => obtain ⟨σ7, H7, I7, n7⟩ := q7; exact again I7 n7
    | cont => obtain ⟨σ7, H7, I7, n7⟩ := q7; exact again I7 n7
    | brk => obtain ⟨σ7, H7, I7, q7⟩ := q7; exact ⟨σ7, H7, I7.unpinned, q7⟩
    | ret v => obtain ⟨x7, σ7, H7, I7, r7, q7⟩ := q7; exact ⟨x7, σ7, H7, I7.unpinned, r7, q7⟩
end

/-! ### the forms one uses -/
/-- over a list that the body leaves as it is -/
theorem for_list {K : PySem.W.Frag} {a : Addr} {xs : List V} {g : TG} {tb : TS} {D : Ends} {σ : St} {H : Hp} (Pv : Nat → St → Hp → Prop) (h0 : Pv 0 σ H) (hl : ∀ i σ H, i ≤ xs.length → Pv i σ H → SqL K H a xs)
    (hs : ∀ i x σ H, xs[i]? = some x → Pv i σ H → g x σ H fun σ2 H2 => tb { D with nx := Pv (i + 1), ct := Pv (i + 1), bk := D.nx } σ2 H2) (hd : ∀ σ H, Pv xs.length σ H → D.nx σ H) :
    ∃ W : Nat → Nat → St → Hp → Prop, (∃ m, W 0 m σ H) ∧ ∀ i m σ H, W i m σ H →
      ((Itl K a).stop i H ∧ D.nx σ H) ∨ ((Itl K a).go i H ∧ ∃ N : St → Hp → Prop, (∀ σ' H', N σ' H' → ∃ m', m' < m ∧ W (i + 1) m' σ' H') ∧ ∀ x H', (Itl K a).yld i H x H' → g x σ H' fun σ2 H2 => tb { D with nx := N, ct := N, bk := D.nx } σ2 H2) := by
  refine ⟨fun i m σ H => m = xs.length - i ∧ i ≤ xs.length ∧ Pv i σ H, ⟨xs.length, by simp, Nat.zero_le _, h0⟩, ?_⟩
  rintro i m σ H ⟨rfl, hi, p⟩
  have q := hl i σ H hi p
  by_cases hlt : i < xs.length
  · refine .inr ⟨⟨xs, xs[i], q, by simp [hlt]⟩, Pv (i + 1), fun σ' H' p' => ⟨xs.length - (i + 1), by omega, rfl, hlt, p'⟩, fun x H' y => ?_⟩
    obtain ⟨e, y⟩ := y
    subst e
    exact hs i x σ _ (y xs q) p
  · have e : i = xs.length := by omega
    subst e
    exact .inl ⟨⟨xs, q, Nat.le_refl _⟩, hd σ H p⟩
theorem for_tup {K : PySem.W.Frag} {a : Addr} {xs : List V} {g : TG} {tb : TS} {D : Ends} {σ : St} {H : Hp} (Pv : Nat → St → Hp → Prop) (h0 : Pv 0 σ H) (hl : ∀ i σ H, i ≤ xs.length → Pv i σ H → SqT K H a xs)
    (hs : ∀ i x σ H, xs[i]? = some x → Pv i σ H → g x σ H fun σ2 H2 => tb { D with nx := Pv (i + 1), ct := Pv (i + 1), bk := D.nx } σ2 H2) (hd : ∀ σ H, Pv xs.length σ H → D.nx σ H) :
    ∃ W : Nat → Nat → St → Hp → Prop, (∃ m, W 0 m σ H) ∧ ∀ i m σ H, W i m σ H →
      ((Itt K a).stop i H ∧ D.nx σ H) ∨ ((Itt K a).go i H ∧ ∃ N : St → Hp → Prop, (∀ σ' H', N σ' H' → ∃ m', m' < m ∧ W (i + 1) m' σ' H') ∧ ∀ x H', (Itt K a).yld i H x H' → g x σ H' fun σ2 H2 => tb { D with nx := N, ct := N, bk := D.nx } σ2 H2) := by
  refine ⟨fun i m σ H => m = xs.length - i ∧ i ≤ xs.length ∧ Pv i σ H, ⟨xs.length, by simp, Nat.zero_le _, h0⟩, ?_⟩
  rintro i m σ H ⟨rfl, hi, p⟩
  have q := hl i σ H hi p
  by_cases hlt : i < xs.length
  · refine .inr ⟨⟨xs, xs[i], q, by simp [hlt]⟩, Pv (i + 1), fun σ' H' p' => ⟨xs.length - (i + 1), by omega, rfl, hlt, p'⟩, fun x H' y => ?_⟩
    obtain ⟨e, y⟩ := y
    subst e
    exact hs i x σ _ (y xs q) p
  · have e : i = xs.length := by omega
    subst e
    exact .inl ⟨⟨xs, q, Nat.le_refl _⟩, hd σ H p⟩
theorem for_range {lo : Int} {n : Nat} {g : TG} {tb : TS} {D : Ends} {σ : St} {H : Hp} (Pv : Nat → St → Hp → Prop) (h0 : Pv 0 σ H)
    (hs : ∀ i σ H, i < n → Pv i σ H → g (.int (lo + i)) σ H fun σ2 H2 => tb { D with nx := Pv (i + 1), ct := Pv (i + 1), bk := D.nx } σ2 H2) (hd : ∀ σ H, Pv n σ H → D.nx σ H) :
    ∃ W : Nat → Nat → St → Hp → Prop, (∃ m, W 0 m σ H) ∧ ∀ i m σ H, W i m σ H →
      ((Itr lo n).stop i H ∧ D.nx σ H) ∨ ((Itr lo n).go i H ∧ ∃ N : St → Hp → Prop, (∀ σ' H', N σ' H' → ∃ m', m' < m ∧ W (i + 1) m' σ' H') ∧ ∀ x H', (Itr lo n).yld i H x H' → g x σ H' fun σ2 H2 => tb { D with nx := N, ct := N, bk := D.nx } σ2 H2) := by
  refine ⟨fun i m σ H => m = n - i ∧ i ≤ n ∧ Pv i σ H, ⟨n, by simp, Nat.zero_le _, h0⟩, ?_⟩
  rintro i m σ H ⟨rfl, hi, p⟩
  by_cases hlt : i < n
  · refine .inr ⟨hlt, Pv (i + 1), fun σ' H' p' => ⟨n - (i + 1), by omega, rfl, hlt, p'⟩, fun x H' y => ?_⟩
    obtain ⟨e, y⟩ := y
    subst e y
    exact hs i σ _ hlt p
  · have e : i = n := by omega
    subst e
    exact .inl ⟨Nat.le_refl _, hd σ H p⟩
/-- while, by a word and a measure of the state -/
theorem while_by {c : TT} {tb : TS} {D : Ends} {σ : St} {H : Hp} (Pv : St → Hp → Prop) (μ : St → Hp → Nat) (h0 : Pv σ H)
    (hs : ∀ σ H, Pv σ H → c σ H fun b H1 => if b = true then tb { D with nx := fun σ' H' => Pv σ' H' ∧ μ σ' H' < μ σ H, ct := fun σ' H' => Pv σ' H' ∧ μ σ' H' < μ σ H, bk := D.nx } σ H1 else D.nx σ H1)
    (mono : ∀ σ H Q Q', (∀ b H1, Q b H1 → Q' b H1) → c σ H Q → c σ H Q') : tWhile c tb D σ H := by
  refine ⟨fun m σ H => m = μ σ H ∧ Pv σ H, ⟨_, rfl, h0⟩, ?_⟩
  rintro m σ H ⟨rfl, p⟩
  refine mono σ H _ _ (fun b H1 q => ?_) (hs σ H p)
  cases b with
  | true => exact ⟨_, fun σ' H' ⟨p', l⟩ => ⟨_, l, rfl, p'⟩, q⟩
  | false => exact q
end L2

namespace L2
open PySem PySem.Spec PyProof.Rows

abbrev R2 := V → V → Hp → VK → Prop
/-- a two-place operation on values: f is binaryOp op, inplaceOp op or compareOp op -/
def OpR (X : Cx) (f : Value → Value → Sem Value) (r : R2) : Prop :=
  ∀ (pins : List (Addr × Obj)) (s : Shared) (σ : St) (H : Hp) (x y : V) (v u : Value) (Q : VK), Inv X pins σ H s → RelV x v → RelV y u → r x y H Q →
    wpAny (model X.prog X.w) X.A (f v u) (EP X pins σ Q) X.xe s
/-- a one-place operation -/
def UnR (X : Cx) (f : Value → Sem Value) (r : V → Hp → VK → Prop) : Prop :=
  ∀ (pins : List (Addr × Obj)) (s : Shared) (σ : St) (H : Hp) (x : V) (v : Value) (Q : VK), Inv X pins σ H s → RelV x v → r x H Q →
    wpAny (model X.prog X.w) X.A (f v) (EP X pins σ Q) X.xe s
/-- a call of a value that is known (a builtin, a type) with values -/
def CallR (X : Cx) (f : Value) (r : List V → Hp → VK → Prop) : Prop :=
  ∀ (pins : List (Addr × Obj)) (s : Shared) (σ : St) (H : Hp) (xs : List V) (us : List Value) (Q : VK), Inv X pins σ H s → Vals xs us → r xs H Q →
    wpAny (model X.prog X.w) X.A (call f us) (EP X pins σ Q) X.xe s
/-- a value's truth -/
def TruR (X : Cx) (r : V → Hp → (Bool → Hp → Prop) → Prop) : Prop :=
  ∀ (pins : List (Addr × Obj)) (s : Shared) (σ : St) (H : Hp) (x : V) (v : Value) (Q : Bool → Hp → Prop), Inv X pins σ H s → RelV x v → r x H Q →
    wpAny (model X.prog X.w) X.A (truthy v) (TP X pins σ Q) X.xe s

def tOp (r : R2) (ta tb : TE) : TE := fun σ H Q => ta σ H fun x H1 => tb σ H1 fun y H2 => r x y H2 Q
def tUn (r : V → Hp → VK → Prop) (ta : TE) : TE := fun σ H Q => ta σ H fun x H1 => r x H1 Q
/-- ints in, under C, and a value out -/
def rI (C : Int → Int → Prop) (g : Int → Int → V) : R2 := fun x y H Q => ∃ i j, x = .int i ∧ y = .int j ∧ C i j ∧ Q (g i j) H
def rI0 (g : Int → Int → V) : R2 := fun x y H Q => ∃ i j, x = .int i ∧ y = .int j ∧ Q (g i j) H
def rU (g : Int → V) : V → Hp → VK → Prop := fun x H Q => ∃ i, x = .int i ∧ Q (g i) H

section
variable {X : Cx} {a b c : Expr} {ta tb tc : TE} {pos : Pos}

theorem binT (ha : PE X a ta) (hb : PE X b tb) {pins : List (Addr × Obj)} {s : Shared} {σ : St} {H : Hp} {R : V → V → Hp → Prop} (I : Inv X pins σ H s)
    (h : ta σ H fun x H1 => tb σ H1 fun y H2 => R x y H2) {Q : Value → Shared → Prop} {f : Value → Value → Sem Value}
    (hf : ∀ v u s2 x y H2, Inv X pins σ H2 s2 → RelV x v → RelV y u → R x y H2 → wpAny (model X.prog X.w) X.A (f v u) Q X.xe s2) :
    wpAny (model X.prog X.w) X.A (eval a X.env) (fun v s₁ => wpAny (model X.prog X.w) X.A (eval b X.env) (fun u s₂ => wpAny (model X.prog X.w) X.A (f v u) Q X.xe s₂) X.xe s₁) X.xe s := by
  refine thn (ha pins s σ H _ I h) fun v s1 ⟨x, H1, I1, r1, q1⟩ => ?_
  refine thn (hb pins s1 σ H1 _ I1 q1) fun u s2 ⟨y, H2, I2, r2, q2⟩ => ?_
  exact hf v u s2 x y H2 I2 r1 r2 q2

theorem pe_op {op : Operator} {r : R2} (ho : OpR X (binaryOp op) r) (ha : PE X a ta) (hb : PE X b tb) : PE X (.BinOp a op b pos) (tOp r ta tb) := by
  intro pins s σ H Q I h
  exact wpAny_BinOp (binT ha hb I h fun v u s2 x y H2 I2 rx ry q => ho pins s2 σ H2 x y v u Q I2 rx ry q)
theorem pe_un {op : UnaryOp} {r : V → Hp → VK → Prop} (ho : UnR X (unaryOp op) r) (ha : PE X a ta) : PE X (.UnaryOp op a pos) (tUn r ta) := by
  intro pins s σ H Q I h
  exact UnaryOp_ (thn (ha pins s σ H _ I h) fun v s1 ⟨x, H1, I1, r1, q1⟩ => ho pins s1 σ H1 x v Q I1 r1 q1)
/-- a op= e at a name: the name's slot i -/
theorem augR {op : Operator} {r : R2} (ho : OpR X (inplaceOp op) r) {pins : List (Addr × Obj)} {s : Shared} {σ : St} {H : Hp} {x y : V} {v u : Value} {Q : VK} (I : Inv X pins σ H s)
    (rx : RelV x v) (ry : RelV y u) (q : r x y H Q) : wpAny (model X.prog X.w) X.A (inplaceOp op v u) (EP X pins σ Q) X.xe s := ho pins s σ H x y v u Q I rx ry q

/-! ### ints -/
theorem opI {f : Value → Value → Sem Value} {C : Int → Int → Prop} {g : Int → Int → Int}
    (rule : ∀ (i j : Int) (t u : Tok) (s : Shared) (Q : Value → Shared → Prop) (E : Value → Shared → Prop), C i j → Q (.int (g i j) s.toks) { s with toks := s.toks + 1 } → wpAny (model X.prog X.w) X.A (f (.int i t) (.int j u)) Q E s) :
    OpR X f (rI C fun i j => .int (g i j)) := by
  intro pins s σ H x y v u Q I rx ry h
  obtain ⟨i, j, rfl, rfl, hc, q⟩ := h
  obtain ⟨t, rfl⟩ := rx
  obtain ⟨t', rfl⟩ := ry
  exact rule i j t t' s _ _ hc ⟨.int (g i j), H, I.tok _, ⟨_, rfl⟩, q⟩
theorem opI0 {f : Value → Value → Sem Value} {g : Int → Int → Int}
    (rule : ∀ (i j : Int) (t u : Tok) (s : Shared) (Q : Value → Shared → Prop) (E : Value → Shared → Prop), Q (.int (g i j) s.toks) { s with toks := s.toks + 1 } → wpAny (model X.prog X.w) X.A (f (.int i t) (.int j u)) Q E s) :
    OpR X f (rI0 fun i j => .int (g i j)) := by
  intro pins s σ H x y v u Q I rx ry h
  obtain ⟨i, j, rfl, rfl, q⟩ := h
  obtain ⟨t, rfl⟩ := rx
  obtain ⟨t', rfl⟩ := ry
  exact rule i j t t' s _ _ ⟨.int (g i j), H, I.tok _, ⟨_, rfl⟩, q⟩
theorem opB0 {f : Value → Value → Sem Value} {g : Int → Int → Bool}
    (rule : ∀ (i j : Int) (t u : Tok) (s : Shared) (Q : Value → Shared → Prop) (E : Value → Shared → Prop), Q (.bool (g i j)) s → wpAny (model X.prog X.w) X.A (f (.int i t) (.int j u)) Q E s) :
    OpR X f (rI0 fun i j => .bl (g i j)) := by
  intro pins s σ H x y v u Q I rx ry h
  obtain ⟨i, j, rfl, rfl, q⟩ := h
  obtain ⟨t, rfl⟩ := rx
  obtain ⟨t', rfl⟩ := ry
  exact rule i j t t' s _ _ ⟨.bl (g i j), H, I, rfl, q⟩

def CDiv (i j : Int) : Prop := 0 < j ∧ j < 1073741824
def CDivN (i j : Int) : Prop := j ≠ 0 ∧ j.natAbs < 1073741824
def CPow (i j : Int) : Prop := 0 ≤ j ∧ j ≤ 1000000 ∧ i.natAbs < 2 ^ 64
def CMul (i j : Int) : Prop := (-(2 ^ 64) < i ∧ i < 2 ^ 64) ∨ (-(2 ^ 64) < j ∧ j < 2 ^ 64)
theorem CMul.ok {i j : Int} (h : CMul i j) : IntMulOk i j := by
  rcases h with ⟨h1, h2⟩ | ⟨h1, h2⟩
  · exact .of_left (intBits_le_64 h1 h2)
  · exact .of_right (intBits_le_64 h1 h2)
theorem two_pow_nn (k : Nat) : (0 : Int) ≤ 2 ^ k := by
  rw [two_pow_cast]
  exact Int.natCast_nonneg _

theorem op_add : OpR X (binaryOp .Add) (rI0 fun i j => .int (i + j)) := opI0 fun _ _ _ _ _ _ _ q => add_int q
theorem op_sub : OpR X (binaryOp .Sub) (rI0 fun i j => .int (i - j)) := opI0 fun _ _ _ _ _ _ _ q => sub_int q
theorem op_mul : OpR X (binaryOp .Mult) (rI CMul fun i j => .int (i * j)) := opI fun _ _ _ _ _ _ _ hc q => mul_int q hc.ok
/-- // by a positive divisor -/
theorem op_fdiv : OpR X (binaryOp .FloorDiv) (rI CDiv fun i j => .int (i / j)) := opI fun i j _ _ _ _ _ hc q => by
  have h1 : (0 : Int) < j := hc.1
  have h2 : j < 1073741824 := hc.2
  exact floordiv_int (by omega) (by rw [Int.fdiv_eq_ediv_of_nonneg i (by omega)]; exact q) (.inl (PyProof.noPylong_small (by omega)))
theorem op_fdivN : OpR X (binaryOp .FloorDiv) (rI CDivN fun i j => .int (i.fdiv j)) := opI fun _ _ _ _ _ _ _ hc q => floordiv_int hc.1 q (.inl (PyProof.noPylong_small hc.2))
/-- % by a positive divisor of any size -/
theorem op_mod : OpR X (binaryOp .Mod) (rI (fun _ j => 0 < j) fun i j => .int (i % j)) := opI fun i j _ _ _ _ _ hc q => by
  have h1 : (0 : Int) < j := hc
  exact mod_int' (by omega) (by rw [Int.fmod_eq_emod_of_nonneg i (by omega)]; exact q)
theorem op_modN : OpR X (binaryOp .Mod) (rI (fun _ j => j ≠ 0) fun i j => .int (i.fmod j)) := opI fun _ _ _ _ _ _ _ hc q => mod_int' hc q
theorem op_pow : OpR X (binaryOp .Pow) (rI CPow fun i j => .int (i ^ j.toNat)) := opI fun _ _ _ _ _ _ _ hc q => pow_int_small hc.1 hc.2.1 hc.2.2 q
theorem op_shl : OpR X (binaryOp .LShift) (rI CPow fun i j => .int (i * 2 ^ j.toNat)) := opI fun _ _ _ _ _ _ _ hc q => lshift_int_small hc.1 hc.2.1 hc.2.2 q
theorem op_shr : OpR X (binaryOp .RShift) (rI (fun _ j => 0 ≤ j) fun i j => .int (i / 2 ^ j.toNat)) := opI fun i j _ _ _ _ _ hc q =>
  rshift_int hc (by rw [Int.fdiv_eq_ediv_of_nonneg i (two_pow_nn _)]; exact q)
theorem op_and : OpR X (binaryOp .BitAnd) (rI0 fun i j => .int (Builtin.bitAnd i j)) := opI0 fun _ _ _ _ _ _ _ q => and_int q
theorem op_or : OpR X (binaryOp .BitOr) (rI0 fun i j => .int (Builtin.bitOr i j)) := opI0 fun _ _ _ _ _ _ _ q => or_int q
theorem op_xor : OpR X (binaryOp .BitXor) (rI0 fun i j => .int (Builtin.bitXor i j)) := opI0 fun _ _ _ _ _ _ _ q => xor_int q

theorem iop_add : OpR X (inplaceOp .Add) (rI0 fun i j => .int (i + j)) := opI0 fun _ _ _ _ _ _ _ q => iadd_int q
theorem iop_sub : OpR X (inplaceOp .Sub) (rI0 fun i j => .int (i - j)) := opI0 fun _ _ _ _ _ _ _ q => isub_int q
theorem iop_mul : OpR X (inplaceOp .Mult) (rI CMul fun i j => .int (i * j)) := opI fun _ _ _ _ _ _ _ hc q => imul_int q hc.ok
theorem iop_fdiv : OpR X (inplaceOp .FloorDiv) (rI CDiv fun i j => .int (i / j)) := opI fun i j _ _ _ _ _ hc q => by
  have h1 : (0 : Int) < j := hc.1
  have h2 : j < 1073741824 := hc.2
  exact ifloordiv_int (by omega) (by rw [Int.fdiv_eq_ediv_of_nonneg i (by omega)]; exact q) (.inl (PyProof.noPylong_small (by omega)))
theorem iop_mod : OpR X (inplaceOp .Mod) (rI (fun _ j => 0 < j) fun i j => .int (i % j)) := opI fun i j _ _ _ _ _ hc q => by
  have h1 : (0 : Int) < j := hc
  exact imod_int (by omega) (by rw [Int.fmod_eq_emod_of_nonneg i (by omega)]; exact q)
theorem iop_shl : OpR X (inplaceOp .LShift) (rI CPow fun i j => .int (i * 2 ^ j.toNat)) := opI fun _ _ _ _ _ _ _ hc q => ilshift_int_small hc.1 hc.2.1 hc.2.2 q
theorem iop_shr : OpR X (inplaceOp .RShift) (rI (fun _ j => 0 ≤ j) fun i j => .int (i / 2 ^ j.toNat)) := opI fun i j _ _ _ _ _ hc q =>
  irshift_int hc (by rw [Int.fdiv_eq_ediv_of_nonneg i (two_pow_nn _)]; exact q)
theorem iop_and : OpR X (inplaceOp .BitAnd) (rI0 fun i j => .int (Builtin.bitAnd i j)) := opI0 fun _ _ _ _ _ _ _ q => iand_int q
theorem iop_or : OpR X (inplaceOp .BitOr) (rI0 fun i j => .int (Builtin.bitOr i j)) := opI0 fun _ _ _ _ _ _ _ q => ior_int q
theorem iop_xor : OpR X (inplaceOp .BitXor) (rI0 fun i j => .int (Builtin.bitXor i j)) := opI0 fun _ _ _ _ _ _ _ q => ixor_int q

theorem unI {f : Value → Sem Value} {g : Int → Int}
    (rule : ∀ (i : Int) (t : Tok) (s : Shared) (Q : Value → Shared → Prop) (E : Value → Shared → Prop), Q (.int (g i) s.toks) { s with toks := s.toks + 1 } → wpAny (model X.prog X.w) X.A (f (.int i t)) Q E s) :
    UnR X f (rU fun i => .int (g i)) := by
  intro pins s σ H x v Q I rx h
  obtain ⟨i, rfl, q⟩ := h
  obtain ⟨t, rfl⟩ := rx
  exact rule i t s _ _ ⟨.int (g i), H, I.tok _, ⟨_, rfl⟩, q⟩
theorem un_neg : UnR X (unaryOp .USub) (rU fun i => .int (-i)) := unI fun _ _ _ _ _ q => neg_int q
theorem un_inv : UnR X (unaryOp .Invert) (rU fun i => .int (Builtin.bitNot i)) := unI fun _ _ _ _ _ q => invert_int q

/-! ### bools among ints: n += (a < b) -/
theorem op_add_ib : OpR X (binaryOp .Add) (fun x y H Q => ∃ i k, x = .int i ∧ y = .bl k ∧ Q (.int (i + b2i k)) H) := by
  intro pins s σ H x y v u Q I rx ry h
  obtain ⟨i, k, rfl, rfl, q⟩ := h
  obtain ⟨t, rfl⟩ := rx
  cases ry
  exact add_int_bool ⟨.int (i + b2i k), H, I.tok _, ⟨_, rfl⟩, q⟩
end

/-! ### comparisons -/
/-- the scalars that == tells apart as data does -/
def scal : V → V → Bool
  | .non, .non => true | .non, .int _ => true | .int _, .non => true | .non, .bl _ => true | .bl _, .non => true | .non, .str _ => true | .str _, .non => true
  | .int _, .int _ => true | .bl _, .bl _ => true | .str _, .str _ => true | .byt _, .byt _ => true
  | .int _, .str _ => true | .str _, .int _ => true | .bl _, .str _ => true | .str _, .bl _ => true
  | _, _ => false
def rEq : R2 := fun x y H Q => scal x y = true ∧ Q (.bl (decide (x = y))) H
def rNe : R2 := fun x y H Q => scal x y = true ∧ Q (.bl (!decide (x = y))) H

theorem dec_int {i j : Int} : decide (V.int i = V.int j) = (i == j) := by
  rw [Bool.eq_iff_iff]
  simp
theorem dec_bl {i j : Bool} : decide (V.bl i = V.bl j) = (i == j) := by
  rw [Bool.eq_iff_iff]
  simp
theorem dec_str {i j : Str} : decide (V.str i = V.str j) = (i == j) := by
  rw [Bool.eq_iff_iff]
  simp
theorem dec_byt {i j : Array UInt8} : decide (V.byt i = V.byt j) = (i.toList == j.toList) := by
  rw [Bool.eq_iff_iff]
  cases i
  cases j
  simp

section
variable {X : Cx} {a b c : Expr} {ta tb tc : TE} {pos : Pos}
theorem fin_bl {pins : List (Addr × Obj)} {σ : St} {H : Hp} {s : Shared} {Q : VK} {k k' : Bool} (I : Inv X pins σ H s) (q : Q (.bl k) H) (e : k = k') : EP X pins σ Q (.bool k') s := by
  subst e
  exact ⟨.bl k, H, I, rfl, q⟩
theorem op_eq : OpR X (compareOp .Eq) rEq := by
  intro pins s σ H x y v u Q I rx ry h
  obtain ⟨hs, q⟩ := h
  cases x with
  | non =>
    cases rx
    cases y with
    | non => cases ry; exact PySem.EqNone.eq_none_none (fin_bl I q (by simp))
    | bl j => cases ry; exact PySem.EqNone.eq_none_bool (fin_bl I q (by simp))
    | int j => obtain ⟨t', rfl⟩ := ry; exact PySem.EqNone.eq_none_int (fin_bl I q (by simp))
    | str j => obtain ⟨t', rfl⟩ := ry; exact PySem.EqNone.eq_none_str (fin_bl I q (by simp))
    | _ => exact absurd (show false = true from hs) Bool.false_ne_true
  | bl i =>
    cases rx
    cases y with
    | non => cases ry; exact PySem.EqNone.eq_bool_none (fin_bl I q (by simp))
    | bl j => cases ry; exact eq_bool (fin_bl I q dec_bl)
    | str j => obtain ⟨t', rfl⟩ := ry; exact PySem.EqMixed.eq_bool_str (fin_bl I q (by simp))
    | _ => exact absurd (show false = true from hs) Bool.false_ne_true
  | int i =>
    obtain ⟨t, rfl⟩ := rx
    cases y with
    | non => cases ry; exact PySem.EqNone.eq_int_none (fin_bl I q (by simp))
    | int j => obtain ⟨t', rfl⟩ := ry; exact eq_int (fin_bl I q dec_int)
    | str j => obtain ⟨t', rfl⟩ := ry; exact PySem.EqMixed.eq_int_str (fin_bl I q (by simp))
    | _ => exact absurd (show false = true from hs) Bool.false_ne_true
  | str i =>
    obtain ⟨t, rfl⟩ := rx
    cases y with
    | non => cases ry; exact PySem.EqNone.eq_str_none (fin_bl I q (by simp))
    | bl j => cases ry; exact PySem.EqMixed.eq_str_bool (fin_bl I q (by simp))
    | int j => obtain ⟨t', rfl⟩ := ry; exact PySem.EqMixed.eq_str_int (fin_bl I q (by simp))
    | str j => obtain ⟨t', rfl⟩ := ry; exact eq_str (fin_bl I q dec_str)
    | _ => exact absurd (show false = true from hs) Bool.false_ne_true
  | byt i =>
    obtain ⟨t, rfl⟩ := rx
    cases y with
    | byt j => obtain ⟨t', rfl⟩ := ry; exact PySem.W.eq_bytes (fin_bl I q dec_byt)
    | _ => exact absurd (show false = true from hs) Bool.false_ne_true
  | _ => cases y <;> exact absurd (show false = true from hs) Bool.false_ne_true
theorem op_ne : OpR X (compareOp .NotEq) rNe := by
  intro pins s σ H x y v u Q I rx ry h
  obtain ⟨hs, q⟩ := h
  cases x with
  | non =>
    cases rx
    cases y with
    | non => cases ry; exact PySem.EqNone.ne_none_none (fin_bl I q (by simp))
    | bl j => cases ry; exact PySem.EqNone.ne_none_bool (fin_bl I q (by simp))
    | int j => obtain ⟨t', rfl⟩ := ry; exact PySem.EqNone.ne_none_int (fin_bl I q (by simp))
    | str j => obtain ⟨t', rfl⟩ := ry; exact PySem.EqNone.ne_none_str (fin_bl I q (by simp))
    | _ => exact absurd (show false = true from hs) Bool.false_ne_true
  | bl i =>
    cases rx
    cases y with
    | non => cases ry; exact PySem.EqNone.ne_bool_none (fin_bl I q (by simp))
    | bl j => cases ry; exact ne_bool (fin_bl I q (congrArg not dec_bl))
    | str j => obtain ⟨t', rfl⟩ := ry; exact PySem.EqMixed.ne_bool_str (fin_bl I q (by simp))
    | _ => exact absurd (show false = true from hs) Bool.false_ne_true
  | int i =>
    obtain ⟨t, rfl⟩ := rx
    cases y with
    | non => cases ry; exact PySem.EqNone.ne_int_none (fin_bl I q (by simp))
    | int j => obtain ⟨t', rfl⟩ := ry; exact ne_int (fin_bl I q (congrArg not dec_int))
    | str j => obtain ⟨t', rfl⟩ := ry; exact PySem.EqMixed.ne_int_str (fin_bl I q (by simp))
    | _ => exact absurd (show false = true from hs) Bool.false_ne_true
  | str i =>
    obtain ⟨t, rfl⟩ := rx
    cases y with
    | non => cases ry; exact PySem.EqNone.ne_str_none (fin_bl I q (by simp))
    | bl j => cases ry; exact PySem.EqMixed.ne_str_bool (fin_bl I q (by simp))
    | int j => obtain ⟨t', rfl⟩ := ry; exact PySem.EqMixed.ne_str_int (fin_bl I q (by simp))
    | str j => obtain ⟨t', rfl⟩ := ry; exact ne_str (fin_bl I q (congrArg not dec_str))
    | _ => exact absurd (show false = true from hs) Bool.false_ne_true
  | byt i =>
    obtain ⟨t, rfl⟩ := rx
    cases y with
    | byt j => obtain ⟨t', rfl⟩ := ry; exact PySem.W.ne_bytes (fin_bl I q (congrArg not dec_byt))
    | _ => exact absurd (show false = true from hs) Bool.false_ne_true
  | _ => cases y <;> exact absurd (show false = true from hs) Bool.false_ne_true

theorem op_lt : OpR X (compareOp .Lt) (rI0 fun i j => .bl (decide (i < j))) := opB0 fun _ _ _ _ _ _ _ q => lt_int q
theorem op_le : OpR X (compareOp .LtE) (rI0 fun i j => .bl (decide (i ≤ j))) := opB0 fun _ _ _ _ _ _ _ q => le_int q
theorem op_gt : OpR X (compareOp .Gt) (rI0 fun i j => .bl (decide (j < i))) := opB0 fun _ _ _ _ _ _ _ q => gt_int q
theorem op_ge : OpR X (compareOp .GtE) (rI0 fun i j => .bl (decide (j ≤ i))) := opB0 fun _ _ _ _ _ _ _ q => ge_int q
theorem op_lt_str : OpR X (compareOp .Lt) (fun x y H Q => ∃ i j, x = .str i ∧ y = .str j ∧ Q (.bl (decide (i.cps.toList < j.cps.toList))) H) := by
  intro pins s σ H x y v u Q I rx ry h
  obtain ⟨i, j, rfl, rfl, q⟩ := h
  obtain ⟨t, rfl⟩ := rx
  obtain ⟨t', rfl⟩ := ry
  exact lt_str (fin_bl I q rfl)
/-- the one string within the other -/
theorem op_in_str : OpR X (compareOp .In) (fun x y H Q => ∃ i j, x = .str i ∧ y = .str j ∧ Q (.bl (!(Builtin.Str.occurrences j i 0 j.length 1).isEmpty)) H) := by
  intro pins s σ H x y v u Q I rx ry h
  obtain ⟨i, j, rfl, rfl, q⟩ := h
  obtain ⟨t, rfl⟩ := rx
  obtain ⟨t', rfl⟩ := ry
  exact in_str (fin_bl I q rfl)

/-- is None, is not None: the right side a value none -/
theorem op_isN : OpR X (compareOp .Is) (fun x y H Q => y = .non ∧ Q (.bl (decide (x = .non))) H) := by
  intro pins s σ H x y v u Q I rx ry h
  obtain ⟨rfl, q⟩ := h
  cases ry
  refine is_none_gen (fin_bl I q ?_)
  cases x <;> first
    | (cases rx; rfl)
    | (obtain ⟨t, rfl⟩ := rx; rfl)
theorem op_notN : OpR X (compareOp .IsNot) (fun x y H Q => y = .non ∧ Q (.bl (!decide (x = .non))) H) := by
  intro pins s σ H x y v u Q I rx ry h
  obtain ⟨rfl, q⟩ := h
  cases ry
  refine isnot_none_gen (fin_bl I q ?_)
  cases x <;> first
    | (cases rx; rfl)
    | (obtain ⟨t, rfl⟩ := rx; rfl)

theorem op_notin_str : OpR X (compareOp .NotIn) (fun x y H Q => ∃ i j, x = .str i ∧ y = .str j ∧ Q (.bl (!(!(Builtin.Str.occurrences j i 0 j.length 1).isEmpty))) H) := by
  intro pins s σ H x y v u Q I rx ry h
  obtain ⟨i, j, rfl, rfl, q⟩ := h
  obtain ⟨t, rfl⟩ := rx
  obtain ⟨t', rfl⟩ := ry
  exact notIn_str (fin_bl I q rfl)
/-- is, is not of two objects that are tracked lists or instances -/
def isObj : HO → Bool
  | .lst _ => true
  | .ins _ _ _ => true
  | _ => false
theorem obj_there {pins : List (Addr × Obj)} {s : Shared} {σ : St} {H : Hp} {a : Addr} {o : HO} (I : Inv X pins σ H s) (h : H a = some o) (p : isObj o = true) : ∃ ob, s.heap.get? a = some ob ∧ ob.cls ≠ .type "tuple" := by
  cases o with
  | lst xs =>
    obtain ⟨_, its, n, _, e⟩ : xs.length ≤ sizeLine ∧ ∃ (its : List Value) (n : Nat), Vals xs its ∧ s.heap.get? a = some { cls := .type "list", data := .seq its.toArray n } := I.hok a _ h
    exact ⟨_, e, (by show Value.type "list" ≠ .type "tuple"; decide +kernel)⟩
  | ins C dx fs =>
    have x := I.hok a _ h
    obtain ⟨_, _, _, e, _⟩ := x
    exact ⟨_, e, (by show Value.ref C ≠ .type "tuple"; exact fun z => by cases z)⟩
  | _ => exact absurd (show false = true from p) Bool.false_ne_true
theorem op_is_ref : OpR X (compareOp .Is) (fun x y H Q => ∃ a b oa ob, x = .ref a ∧ y = .ref b ∧ H a = some oa ∧ isObj oa = true ∧ H b = some ob ∧ isObj ob = true ∧ Q (.bl (decide (a = b))) H) := by
  intro pins s σ H x y v u Q I rx ry h
  obtain ⟨a, b, oa, ob, rfl, rfl, ha, pa, hb, pb, q⟩ := h
  cases rx
  cases ry
  obtain ⟨o1, e1, n1⟩ := obj_there I ha pa
  obtain ⟨o2, e2, _⟩ := obj_there I hb pb
  by_cases z : a = b
  · subst z
    exact wpAny_is_ref_self (fin_bl I q (by simp))
  · exact wpAny_is_ref_other z e1 e2 n1 (fin_bl I q (by simp [z]))
theorem op_isnot_ref : OpR X (compareOp .IsNot) (fun x y H Q => ∃ a b oa ob, x = .ref a ∧ y = .ref b ∧ H a = some oa ∧ isObj oa = true ∧ H b = some ob ∧ isObj ob = true ∧ Q (.bl (!decide (a = b))) H) := by
  intro pins s σ H x y v u Q I rx ry h
  obtain ⟨a, b, oa, ob, rfl, rfl, ha, pa, hb, pb, q⟩ := h
  cases rx
  cases ry
  obtain ⟨o1, e1, n1⟩ := obj_there I ha pa
  obtain ⟨o2, e2, _⟩ := obj_there I hb pb
  by_cases z : a = b
  · subst z
    exact wpAny_isNot_ref_self (fin_bl I q (by simp))
  · exact wpAny_isNot_ref_other z e1 e2 n1 (fin_bl I q (by simp [z]))

/-- two rules for one operation: by cases -/
theorem OpR.or {f : Value → Value → Sem Value} {r r' : R2} (h : OpR X f r) (h' : OpR X f r') : OpR X f (fun x y H Q => r x y H Q ∨ r' x y H Q) := by
  intro pins s σ H x y v u Q I rx ry q
  rcases q with q | q
  · exact h pins s σ H x y v u Q I rx ry q
  · exact h' pins s σ H x y v u Q I rx ry q

theorem nomark (b : Expr) {op : CmpOp} (h : op ≠ .In := by decide) (h2 : op ≠ .NotIn := by decide) : behindInMarks op b = false := by
  have e1 : (op == CmpOp.In) = false := by cases op <;> first | rfl | exact absurd rfl h
  have e2 : (op == CmpOp.NotIn) = false := by cases op <;> first | rfl | exact absurd rfl h2
  cases b <;> simp [behindInMarks, e1, e2]
/-- a comparison as a value; hm: nomark b, or (for in, not in) by with_unfolding_all rfl -/
theorem pe_cmpR {op : CmpOp} {r : R2} (ho : OpR X (compareOp op) r) (ha : PE X a ta) (hb : PE X b tb) (hm : behindInMarks op b = false) : PE X (.Compare a [op] [b] pos) (tOp r ta tb) := by
  intro pins s σ H Q I h
  exact wpAny_Compare1 (binT ha hb I h fun v u s2 x y H2 I2 rx ry q => ho pins s2 σ H2 x y v u Q I2 rx ry q) hm
/-- a reading of a value as a test -/
def tTest (t : TE) : TT := fun σ H Q => t σ H fun x H' => ∃ k, x = .bl k ∧ Q k H'
theorem pt_cmpR {op : CmpOp} {r : R2} (ho : OpR X (compareOp op) r) (ha : PE X a ta) (hb : PE X b tb) (hm : behindInMarks op b = false) : PT X (.Compare a [op] [b] pos) (tTest (tOp r ta tb)) := by
  intro pins s σ H Q I h
  refine wpAny_isTrue_Compare1 (thn (ha pins s σ H _ I h) fun v s1 ⟨x, H1, I1, r1, q1⟩ => thn (hb pins s1 σ H1 _ I1 q1) fun u s2 ⟨y, H2, I2, r2, q2⟩ =>
    thn (ho pins s2 σ H2 x y v u _ I2 r1 r2 q2) fun c s3 ⟨z, H3, I3, r3, k, e, q3⟩ => ?_) hm
  subst e
  cases r3
  exact wpAny_truthy_bool ⟨H3, I3, q3⟩
/-- a op1 b op2 c -/
def tChain (r r' : R2) (ta tb tc : TE) : TE := fun σ H Q => ta σ H fun x H1 => tb σ H1 fun y H2 => r x y H2 fun z H3 => ∃ k, z = .bl k ∧
  (if k = true then tc σ H3 fun w' H4 => r' y w' H4 Q else Q (.bl false) H3)
theorem pe_chain {op op' : CmpOp} {r r' : R2} (ho : OpR X (compareOp op) r) (ho' : OpR X (compareOp op') r') (ha : PE X a ta) (hb : PE X b tb) (hc : PE X c tc)
    (hm : lastMarks [op, op'] [b, c] = false := by with_unfolding_all rfl) : PE X (.Compare a [op, op'] [b, c] pos) (tChain r r' ta tb tc) := by
  intro pins s σ H Q I h
  refine Compare_chain (thn (ha pins s σ H _ I h) fun v s1 ⟨x, H1, I1, r1, q1⟩ => chain_link (thn (hb pins s1 σ H1 _ I1 q1) fun u s2 ⟨y, H2, I2, r2, q2⟩ =>
    thn (ho pins s2 σ H2 x y v u _ I2 r1 r2 q2) fun d s3 ⟨z, H3, I3, r3, k, e, q3⟩ => ?_)) hm
  subst e
  cases r3
  refine wpAny_truthy_bool ?_
  cases k with
  | false => exact ite_ff ⟨.bl false, H3, I3, rfl, q3⟩
  | true => exact ite_tt (chain_last (thn (hc pins s3 σ H3 _ I3 q3) fun w' s4 ⟨z', H4, I4, r4, q4⟩ => ho' pins s4 σ H4 y z' u w' Q I4 r2 r4 q4))
theorem pt_chain {op op' : CmpOp} {r r' : R2} (ho : OpR X (compareOp op) r) (ho' : OpR X (compareOp op') r') (ha : PE X a ta) (hb : PE X b tb) (hc : PE X c tc)
    (hm : lastMarks [op, op'] [b, c] = false := by with_unfolding_all rfl) : PT X (.Compare a [op, op'] [b, c] pos) (tTest (tChain r r' ta tb tc)) := by
  intro pins s σ H Q I h
  refine isTrue_chain (thn (ha pins s σ H _ I h) fun v s1 ⟨x, H1, I1, r1, q1⟩ => test_link (thn (hb pins s1 σ H1 _ I1 q1) fun u s2 ⟨y, H2, I2, r2, q2⟩ =>
    thn (ho pins s2 σ H2 x y v u _ I2 r1 r2 q2) fun d s3 ⟨z, H3, I3, r3, k, e, q3⟩ => ?_)) hm
  subst e
  cases r3
  refine wpAny_truthy_bool ?_
  cases k with
  | false =>
    obtain ⟨k', e', q'⟩ := q3
    cases e'
    exact ite_ff ⟨H3, I3, q'⟩
  | true =>
    refine ite_tt (test_last (thn (hc pins s3 σ H3 _ I3 q3) fun w' s4 ⟨z', H4, I4, r4, q4⟩ => thn (ho' pins s4 σ H4 y z' u w' _ I4 r2 r4 q4) fun d' s5 ⟨z2, H5, I5, r5, k2, e2, q5⟩ => ?_))
    subst e2
    cases r5
    exact wpAny_truthy_bool ⟨H5, I5, q5⟩

/-! ### truth -/
/-- a value's truth by the abstract heap -/
def TruV (K : PySem.W.Frag) (x : V) (H : Hp) (k : Bool) : Prop :=
  match x with
  | .non => k = false
  | .bl b => k = b
  | .int i => k = (i != 0)
  | .str y => y.length ≤ sizeLine ∧ k = ((y.length : Int) != 0)
  | .byt y => y.size ≤ sizeLine ∧ k = ((y.size : Int) != 0)
  | .ref p => (∃ xs, SqL K H p xs ∧ k = !xs.isEmpty) ∨ (∃ xs, SqT K H p xs ∧ k = !xs.isEmpty) ∨ ∃ kvs, H p = some (.dK kvs) ∧ k = !kvs.isEmpty
  | _ => False
theorem isEmpty_kv {κ : Type} {kvs : List (κ × V)} {vs : List (κ × Value)} (r : KV kvs vs) : (!vs.isEmpty) = !kvs.isEmpty := by
  cases r <;> rfl
theorem isEmpty_of {xs : List V} {its : List Value} (r : Vals xs its) : (!its.toArray.isEmpty) = !xs.isEmpty := by
  cases r <;> simp
theorem line63 : (sizeLine : Nat) < 2 ^ 63 := by rw [sizeLine_eq]; decide
theorem tru_ok : TruR X (fun x H Q => ∃ k, TruV X.K x H k ∧ Q k H) := by
  intro pins s σ H x v Q I rx h
  obtain ⟨k, e, q⟩ := h
  have hl := line63
  have hs : sizeLine = 16777216 := sizeLine_eq
  cases x with
  | non =>
    cases rx
    have e' : k = false := e
    subst e'
    exact truthy_none ⟨H, I, q⟩
  | bl b =>
    cases rx
    have e' : k = b := e
    subst e'
    exact wpAny_truthy_bool ⟨H, I, q⟩
  | int i =>
    obtain ⟨t, rfl⟩ := rx
    have e' : k = (i != 0) := e
    subst e'
    exact PySem.P.truthy_int ⟨H, I, q⟩
  | str y =>
    obtain ⟨t, rfl⟩ := rx
    obtain ⟨hy, e'⟩ : y.length ≤ sizeLine ∧ k = ((y.length : Int) != 0) := e
    subst e'
    exact PySem.P.truthy_str (by omega) ⟨H, I.tok _, q⟩
  | byt y =>
    obtain ⟨t, rfl⟩ := rx
    obtain ⟨hy, e'⟩ : y.size ≤ sizeLine ∧ k = ((y.size : Int) != 0) := e
    subst e'
    exact PySem.W.truthy_bytes (by omega) ⟨H, I.tok _, q⟩
  | ref p =>
    cases rx
    have e' : (∃ xs, SqL X.K H p xs ∧ k = !xs.isEmpty) ∨ (∃ xs, SqT X.K H p xs ∧ k = !xs.isEmpty) ∨ ∃ kvs, H p = some (.dK kvs) ∧ k = !kvs.isEmpty := e
    rcases e' with ⟨xs, hx, e'⟩ | ⟨xs, hx, e'⟩ | ⟨kvs, hx, e'⟩
    · subst e'
      obtain ⟨its, r, pl, hz⟩ := I.list hx
      have hlen := r.length
      exact wpAny_truthy_list pl.isList (by simp only [List.size_toArray]; omega) ⟨H, I.tok _, by rw [isEmpty_of r]; exact q⟩
    · subst e'
      obtain ⟨its, r, pl, hz⟩ := I.tuple hx
      have hlen := r.length
      exact truthy_tuple pl (by simp only [List.size_toArray]; omega) ⟨H, I.tok _, by rw [isEmpty_of r]; exact q⟩
    · subst e'
      obtain ⟨hz, hS, vs, r, m⟩ : kvs.length ≤ sizeLine ∧ (p == sysModules) = false ∧ ∃ vs, KV kvs vs ∧ s.heap.DictOf (mixKind X.prog X.w) p vs := I.hok p _ hx
      have hlen : kvs.length = vs.length := Paired.length r
      exact wpAny_truthy_dict hS m (by omega) ⟨H, I.tok _, by rw [isEmpty_kv r]; exact q⟩
  | _ => exact (show False from e).elim
/-- any expression whose test is its value's truth (a name, a call, a subscript, a field ..: he by fun _ => rfl) -/
theorem pt_truth (ha : PE X a ta) (he : ∀ whole, isTrue a X.env whole = (do let v ← whole; standAt a.pos; holding [v] (truthy v))) :
    PT X a (fun σ H Q => ta σ H fun x H' => ∃ k, TruV X.K x H' k ∧ Q k H') := by
  intro pins s σ H Q I h
  exact isTrue_plain (thn (ha pins s σ H _ I h) fun v s1 ⟨x, H1, I1, r1, q1⟩ => tru_ok pins s1 σ H1 x v Q I1 r1 q1) (he _)

/-! ### strs and bytes -/
theorem pe_byt {x : List UInt8} {k : Nat} : PE X (.Constant (.bytes x) k pos) (fun _ H Q => Q (.byt x.toArray) H) := fun _ _ _ H _ I h => PySem.W.Constant_bytes ⟨.byt x.toArray, H, I.tok _, ⟨_, rfl⟩, h⟩
theorem op_add_str : OpR X (binaryOp .Add) (fun x y H Q => ∃ i j, x = .str i ∧ y = .str j ∧ i.length + j.length ≤ sizeLine ∧ Q (.str (i ++ j)) H) := by
  intro pins s σ H x y v u Q I rx ry h
  obtain ⟨i, j, rfl, rfl, hz, q⟩ := h
  obtain ⟨t, rfl⟩ := rx
  obtain ⟨t', rfl⟩ := ry
  exact add_str (fun t' tk => ⟨.str (i ++ j), H, I.tok _, ⟨_, rfl⟩, q⟩) hz
theorem iop_add_str : OpR X (inplaceOp .Add) (fun x y H Q => ∃ i j, x = .str i ∧ y = .str j ∧ i.length + j.length ≤ sizeLine ∧ Q (.str (i ++ j)) H) := by
  intro pins s σ H x y v u Q I rx ry h
  obtain ⟨i, j, rfl, rfl, hz, q⟩ := h
  obtain ⟨t, rfl⟩ := rx
  obtain ⟨t', rfl⟩ := ry
  exact iadd_str (fun t' tk => ⟨.str (i ++ j), H, I.tok _, ⟨_, rfl⟩, q⟩) hz
theorem op_add_byt : OpR X (binaryOp .Add) (fun x y H Q => ∃ i j, x = .byt i ∧ y = .byt j ∧ i.size + j.size ≤ 16777216 ∧ Q (.byt (i ++ j)) H) := by
  intro pins s σ H x y v u Q I rx ry h
  obtain ⟨i, j, rfl, rfl, hz, q⟩ := h
  obtain ⟨t, rfl⟩ := rx
  obtain ⟨t', rfl⟩ := ry
  exact PySem.W.KBy.add_bytes hz (fun t' tk => ⟨.byt (i ++ j), H, I.tok _, ⟨_, rfl⟩, q⟩)

def PlainIxT (b : Expr) : Prop := ∀ o i, subscripted b false o i = operate [o, i] (getItem o i)
/-- s[i], 0 ≤ i < len -/
theorem pe_item_str (ha : PE X a ta) (hb : PE X b tb) (hs : PlainIxT b) :
    PE X (.Subscript a b pos) (tOp (fun x y H Q => ∃ z i c, x = .str z ∧ y = .int i ∧ 0 ≤ i ∧ i < 2 ^ 63 ∧ i < z.length ∧ z.cps[i.toNat]? = some c ∧ Q (.str ⟨#[c]⟩) H) ta tb) := by
  intro pins s σ H Q I h
  refine Subscript_ (binT ha hb I h fun v u s2 x y H2 I2 rx ry q => ?_)
  obtain ⟨z, i, c, rfl, rfl, h0, h63, h1, hc, q⟩ := q
  obtain ⟨t, rfl⟩ := rx
  obtain ⟨t', rfl⟩ := ry
  have e : seqIndex? i z.length = some i.toNat := PySem.StrLaws.seqIndex_nonneg h0 h1
  exact tail_any (typeIs_str s2 z t) slot_str_getitem.lookup (getItem_str (c := c) (by
    have e1 : decide (i < -(2 ^ 63 : Int)) = false := decide_eq_false (by omega)
    have e2 : decide (i ≥ 2 ^ 63) = false := decide_eq_false (by omega)
    rw [e1, e2] <;> rfl) (by rw [e]; exact hc) ⟨.str ⟨#[c]⟩, H2, I2.tok _, ⟨_, rfl⟩, q⟩) (hs _ _)
/-- b[i], 0 ≤ i < len -/
theorem pe_item_byt (ha : PE X a ta) (hb : PE X b tb) (hs : PlainIxT b) :
    PE X (.Subscript a b pos) (tOp (fun x y H Q => ∃ (z : List UInt8) (i : Int), x = .byt z.toArray ∧ y = .int i ∧ z.length ≤ sizeLine ∧ 0 ≤ i ∧ i < z.length ∧ Q (.int ((z.getD i.toNat 0).toNat : Nat)) H) ta tb) := by
  intro pins s σ H Q I h
  refine Subscript_ (binT ha hb I h fun v u s2 x y H2 I2 rx ry q => ?_)
  obtain ⟨z, i, rfl, rfl, hz, h0, h1, q⟩ := q
  obtain ⟨t, rfl⟩ := rx
  obtain ⟨t', rfl⟩ := ry
  have hl : sizeLine = 16777216 := sizeLine_eq
  exact tail_any (PySem.W.typeIs_bytes s2 z.toArray t) PySem.W.FB.slot_bytes_getitem.lookup (PySem.W.getItem_bytes (by omega) h0 h1 ⟨.int ((z.getD i.toNat 0).toNat : Nat), H2, I2.tok _, ⟨_, rfl⟩, q⟩) (hs _ _)

/-! ### scalar builtins, by CallR -/
theorem vals1 {x : V} {us : List Value} (r : Vals [x] us) : ∃ u, us = [u] ∧ RelV x u := by
  cases r with
  | cons r1 r2 => cases r2; exact ⟨_, rfl, r1⟩
theorem vals2 {x y : V} {us : List Value} (r : Vals [x, y] us) : ∃ u w', us = [u, w'] ∧ RelV x u ∧ RelV y w' := by
  cases r with
  | cons r1 r2 =>
    cases r2 with
    | cons r3 r4 => cases r4; exact ⟨_, _, rfl, r1, r3⟩
theorem call_abs : CallR X (.builtin "abs") (fun xs H Q => ∃ i, xs = [.int i] ∧ Q (.int (if i < 0 then -i else i)) H) := by
  intro pins s σ H xs us Q I r h
  obtain ⟨i, rfl, q⟩ := h
  obtain ⟨u, rfl, t, rfl⟩ := vals1 r
  exact call_abs_int fun u tk => ⟨.int (if i < 0 then -i else i), H, I.tok _, ⟨_, rfl⟩, q⟩
theorem call_max2 (hc : X.calm = true) : CallR X (.builtin "max") (fun xs H Q => ∃ i j, xs = [.int i, .int j] ∧ Q (.int (if j > i then j else i)) H) := by
  intro pins s σ H xs us Q I r h
  obtain ⟨i, j, rfl, q⟩ := h
  obtain ⟨u, w', rfl, ⟨t, rfl⟩, ⟨t', rfl⟩⟩ := vals2 r
  refine max_two_ints (I.ok.hd hc) fun h' tk k => ⟨_, H, I.kept k, ?_, q⟩
  by_cases hj : j > i
  · rw [if_pos hj, if_pos hj]; exact ⟨_, rfl⟩
  · rw [if_neg hj, if_neg hj]; exact ⟨_, rfl⟩
theorem call_min2 (hc : X.calm = true) : CallR X (.builtin "min") (fun xs H Q => ∃ i j, xs = [.int i, .int j] ∧ Q (.int (if j < i then j else i)) H) := by
  intro pins s σ H xs us Q I r h
  obtain ⟨i, j, rfl, q⟩ := h
  obtain ⟨u, w', rfl, ⟨t, rfl⟩, ⟨t', rfl⟩⟩ := vals2 r
  refine min_two_ints (I.ok.hd hc) fun h' tk k => ⟨_, H, I.kept k, ?_, q⟩
  by_cases hj : j < i
  · rw [if_pos hj, if_pos hj]; exact ⟨_, rfl⟩
  · rw [if_neg hj, if_neg hj]; exact ⟨_, rfl⟩
theorem call_int1 : CallR X (.type "int") (fun xs H Q => (∃ i, xs = [.int i] ∧ Q (.int i) H) ∨ ∃ k, xs = [.bl k] ∧ Q (.int (if k then 1 else 0)) H) := by
  intro pins s σ H xs us Q I r h
  rcases h with ⟨i, rfl, q⟩ | ⟨k, rfl, q⟩
  · obtain ⟨u, rfl, t, rfl⟩ := vals1 r
    exact call_int_int ⟨.int i, H, I, ⟨_, rfl⟩, q⟩
  · obtain ⟨u, rfl, r1⟩ := vals1 r
    cases r1
    exact call_int_bool ⟨.int (if k then 1 else 0), H, I.tok _, ⟨_, rfl⟩, q⟩
theorem call_bool1 : CallR X (.type "bool") (fun xs H Q => (∃ i, xs = [.int i] ∧ Q (.bl (i != 0)) H) ∨ ∃ k, xs = [.bl k] ∧ Q (.bl k) H) := by
  intro pins s σ H xs us Q I r h
  rcases h with ⟨i, rfl, q⟩ | ⟨k, rfl, q⟩
  · obtain ⟨u, rfl, t, rfl⟩ := vals1 r
    exact call_bool_int ⟨.bl (i != 0), H, I, rfl, q⟩
  · obtain ⟨u, rfl, r1⟩ := vals1 r
    cases r1
    exact call_bool_bool ⟨.bl k, H, I, rfl, q⟩
theorem call_str_int : CallR X (.type "str") (fun xs H Q => ∃ i, xs = [.int i] ∧ i.natAbs.log2 < 1920 ∧ Q (.str (toString i)) H) := by
  intro pins s σ H xs us Q I r h
  obtain ⟨i, rfl, hz, q⟩ := h
  obtain ⟨u, rfl, t, rfl⟩ := vals1 r
  exact PySem.P.str_of_int hz ⟨.str _, H, I.tok _, ⟨_, rfl⟩, q⟩
theorem call_ord : CallR X (.builtin "ord") (fun xs H Q => ∃ x, xs = [.str x] ∧ x.length = 1 ∧ Q (.int (x.cps.getD 0 0 : Nat)) H) := by
  intro pins s σ H xs us Q I r h
  obtain ⟨x, rfl, hz, q⟩ := h
  obtain ⟨u, rfl, t, rfl⟩ := vals1 r
  exact ord_of_one hz ⟨.int _, H, I.tok _, ⟨_, rfl⟩, q⟩
theorem call_chr : CallR X (.builtin "chr") (fun xs H Q => ∃ i, xs = [.int i] ∧ 0 ≤ i ∧ i ≤ 1114111 ∧ Q (.str ⟨#[i.toNat]⟩) H) := by
  intro pins s σ H xs us Q I r h
  obtain ⟨i, rfl, h0, h1, q⟩ := h
  obtain ⟨u, rfl, t, rfl⟩ := vals1 r
  exact chr_of_range h0 h1 ⟨.str _, H, I.tok _, ⟨_, rfl⟩, q⟩
/-- len of a str, a bytes, a list, a tuple -/
def LenV (K : PySem.W.Frag) (x : V) (H : Hp) (n : Nat) : Prop :=
  match x with
  | .str y => y.length ≤ sizeLine ∧ n = y.length
  | .byt y => y.size ≤ sizeLine ∧ n = y.size
  | .ref p => (∃ xs, SqL K H p xs ∧ n = xs.length) ∨ ∃ xs, SqT K H p xs ∧ n = xs.length
  | _ => False
theorem call_len : CallR X (.builtin "len") (fun xs H Q => ∃ x n, xs = [x] ∧ LenV X.K x H n ∧ Q (.int n) H) := by
  intro pins s σ H xs us Q I r h
  obtain ⟨x, n, rfl, e, q⟩ := h
  obtain ⟨u, rfl, rx⟩ := vals1 r
  have hl := line63
  have hs : sizeLine = 16777216 := sizeLine_eq
  cases x with
  | str y =>
    obtain ⟨t, rfl⟩ := rx
    obtain ⟨hy, e'⟩ : y.length ≤ sizeLine ∧ n = y.length := e
    subst e'
    exact len_str (by omega) ⟨.int _, H, I.tok _, ⟨_, rfl⟩, q⟩
  | byt y =>
    obtain ⟨t, rfl⟩ := rx
    obtain ⟨hy, e'⟩ : y.size ≤ sizeLine ∧ n = y.size := e
    subst e'
    exact PySem.W.len_bytes (by omega) ⟨.int _, H, I.tok _, ⟨_, rfl⟩, q⟩
  | ref p =>
    cases rx
    have e' : (∃ xs, SqL X.K H p xs ∧ n = xs.length) ∨ ∃ xs, SqT X.K H p xs ∧ n = xs.length := e
    rcases e' with ⟨xs, hx, e'⟩ | ⟨xs, hx, e'⟩
    · subst e'
      obtain ⟨its, r', pl, hz⟩ := I.list hx
      have hlen := r'.length
      exact Calls.call_len_list pl.isList (by simp only [List.size_toArray]; omega) ⟨.int xs.length, H, I.tok _, ⟨_, by simp only [List.size_toArray]; rw [hlen]⟩, q⟩
    · subst e'
      obtain ⟨its, r', pl, hz⟩ := I.tuple hx
      have hlen := r'.length
      exact len_tuple pl (by simp only [List.size_toArray]; omega) ⟨.int xs.length, H, I.tok _, ⟨_, by simp only [List.size_toArray]; rw [hlen]⟩, q⟩
  | _ => exact (show False from e).elim
/-- divmod: a new tuple -/
theorem call_divmod : CallR X (.builtin "divmod") (fun xs H Q => ∃ i j, xs = [.int i, .int j] ∧ CDiv i j ∧ ∀ p, H p = none → Q (.ref p) (upd H p (.tup [.int (i / j), .int (i % j)]))) := by
  intro pins s σ H xs us Q I r h
  obtain ⟨i, j, rfl, ⟨h1, h2⟩, q⟩ := h
  obtain ⟨u, w', rfl, ⟨t, rfl⟩, ⟨t', rfl⟩⟩ := vals2 r
  refine divmod_int (by omega) ?_ (.inl (PyProof.noPylong_small (by omega)))
  rw [Int.fdiv_eq_ediv_of_nonneg i (by omega), Int.fmod_eq_emod_of_nonneg i (by omega)]
  have hn : H s.heap.objs.size = none := I.hok.fresh (Nat.le_refl _)
  refine ⟨.ref s.heap.objs.size, _, ?_, rfl, q _ hn⟩
  refine I.laid (fun b o e => Heap.get?_push_of_some _ e) (Nat.le_refl _) ⟨by simp only [List.length_cons, List.length_nil]; rw [sizeLine_eq]; decide, [.int (i / j) s.toks, .int (i % j) (s.toks + 1)], .cons ⟨_, rfl⟩ (.cons ⟨_, rfl⟩ .nil), ?_⟩
  exact ⟨_, Heap.get?_push_size s.heap rfl, rfl, 0, rfl⟩
end
end L2

namespace L2
open PySem PySem.Spec PyProof.Rows

/-! ### an instance, its attributes a map -/
structure ObjM (h : Heap) (x dx C : Addr) (mA : Str → Option Value) : Prop where
  obj : h.get? x = some (PySem.W.instObj C dx)
  ns : h.Ns1 dx mA
  ne : dx ≠ x

theorem lookIn_ns {h : Heap} {dx : Addr} {mA : Str → Option Value} (n : h.Ns1 dx mA) : ∃ od, h.get? dx = some od ∧ ∀ name, PySem.W.lookIn name od = some (mA name) := by
  obtain ⟨o, es, ep, ho, hd, hk, _, hm⟩ := n
  refine ⟨o, ho, fun name => ?_⟩
  have e := hm name
  unfold nsFind findBy at e
  rw [← Array.find?_toList] at e
  unfold PySem.W.lookIn
  rw [hd]
  dsimp only
  split
  · rename_i y q
    rw [q] at e
    exact congrArg some e
  · rename_i q
    rw [q] at e
    have a : es.toList.any (·.refKey) = false := by
      rw [List.any_eq_false]
      intro y hy
      obtain ⟨z, t, hkey⟩ := hk y (Array.mem_toList_iff.mp hy)
      simp [DictEntry.refKey, hkey]
    have a' : ¬ es.toList.any (·.refKey) = true := by rw [a]; exact Bool.false_ne_true
    rw [if_neg a']
    exact congrArg some e

theorem ObjM.look {h : Heap} {x dx C : Addr} {mA : Str → Option Value} (I : ObjM h x dx C mA) : ∃ od, PySem.W.InstAt h x (PySem.W.instObj C dx) C (some od) ∧ ∀ name, PySem.W.lookIn name od = some (mA name) :=
  let ⟨od, ho, hl⟩ := lookIn_ns I.ns
  ⟨od, ⟨I.obj, rfl, rfl, ho⟩, hl⟩

section
variable {prog : Program} {w : World} {A : Around} {E : Value → Shared → Prop} {s : Shared} {K : PySem.W.Frag} {x dx C f : Addr} {mA : Str → Option Value} {name : Str} {v : Value}

theorem get_map {expr : Bool} {Q : Value → Shared → Prop} (X : K.In s.heap) (I : ObjM s.heap x dx C mA) (hg : PySem.W.plainGet K C name = true) (hh : PySem.W.hasDictIn K C = true)
    (ha : PySem.W.findIn K (.ref C) name = some none) (hv : mA name = some v) (hv' : PySem.W.handedIn v = true) (h : Q v { s with toks := s.toks + 1 }) :
    wpAny (model prog w) A (getAttr (.ref x) name expr) Q E s := by
  obtain ⟨od, J, hl⟩ := I.look
  exact PySem.W.get_value X J (PySem.W.plainGet_of hg).1 (PySem.W.findObj_own hh ha rfl (by rw [hl, hv])) hv' h

theorem get_const {expr : Bool} {a : Value} {Q : Value → Shared → Prop} (X : K.In s.heap) (I : ObjM s.heap x dx C mA) (hg : PySem.W.plainGet K C name = true) (hh : PySem.W.hasDictIn K C = true)
    (ha : PySem.W.findIn K (.ref C) name = some (some a)) (hn : PySem.W.specialIn K a "__get__" = some none) (hc : PySem.W.copiedNames.contains name = false) (hv : mA name = none) (hv' : PySem.W.handedIn a = true)
    (h : Q a { s with toks := s.toks + 1 }) : wpAny (model prog w) A (getAttr (.ref x) name expr) Q E s := by
  obtain ⟨od, J, hl⟩ := I.look
  exact PySem.W.get_value X J (PySem.W.plainGet_of hg).1 (PySem.W.findObj_cls hh ha hn hv' hc (by rw [hl, hv])) hv' h

theorem get_meth {pl : Sem Bool} {Q : Value × List Value → Shared → Prop} (X : K.In s.heap) (I : ObjM s.heap x dx C mA) (hg : PySem.W.plainGet K C name = true)
    (hf : PySem.W.findIn K (.ref C) name = some (some (.ref f))) (ht : PySem.W.isFn K (.ref f) = true) (hv : mA name = none) (h : Q (.ref f, [.ref x]) s) :
    wpAny (model prog w) A (getMethod (.ref x) name pl) Q E s := by
  obtain ⟨od, J, hl⟩ := I.look
  exact PySem.W.method_fn X J (PySem.W.plainGet_of hg).1 (PySem.W.plainGet_of hg).2 hf (beq_iff_eq.mp ht) (by show (PySem.W.lookIn name od).map (·.isSome) = some false; rw [hl, hv]; rfl) h

theorem set_map {ns : List Str} {Q : Unit → Shared → Prop} (X : K.In s.heap) (I : ObjM s.heap x dx C mA)
    (hs : PySem.W.findIn K (.ref C) "__setattr__" = some (some (.builtin "object.__setattr__"))) (hp : PySem.W.plainOver K C = true) (ht : PySem.W.takerIn K C name = some none) (hh : PySem.W.hasDictIn K C = true)
    (hw : PySem.Within mA ns) (hsz : ns.length ≤ sizeLine)
    (h : ∀ h', ObjM h' x dx C (fun y => if y = name then some v else mA y) → Heap.SameBut dx s.heap h' → Q () { s with heap := h', toks := s.toks + 2 }) :
    wpAny (model prog w) A (setAttr (.ref x) name v) Q E s := by
  obtain ⟨od, J, hl⟩ := I.look
  refine PySem.W.set_plain X J hs (PySem.W.osa_open (s := { s with toks := s.toks + 1 }) (r := none) X J hp ht fun b => ?_)
  obtain ⟨cd, hc, hd'⟩ := PySem.W.any_some hh
  have hx : s.heap.get? x = some ⟨.ref C, some dx, .plain, #[]⟩ := I.obj
  refine wpAny_bind (wpAny_pure (wpAny_bind (wpAny_bind (wpAny_loadPart hx (wpAny_bind (PySem.W.Looks.here (s := { s with toks := s.toks + 1 }) (PySem.W.looks_clsIn X hc) ?_))))))
  rw [hd']
  refine wpAny_pure (a := some dx) (wpAny_bind (wpAny_pure (wpAny_bind ?_)))
  refine wpAny_nsSet1 (s := { s with toks := s.toks + 1 }) I.ns fun h' hn2 hs2 => ?_
  obtain ⟨oD, esD, epD, hoD, hdD, hcD⟩ := hn2.count (PySem.Within.cons name v hw)
  refine wpAny_bind (wpAny_lookBehind hoD (by rw [hdD]; exact pastItsLine_dict (Nat.le_trans hcD (by rw [List.length_cons]; omega))) ?_)
  exact wpAny_pure (h _ ⟨(hs2.2 _ (Ne.symm I.ne)).trans I.obj, hn2, I.ne⟩ hs2)

/-- C(..): the dict at the heap's end, the instance behind it; then its __init__ -/
theorem make_map {R : Result → Shared → Prop} {vs : List Value} {kw : List (Str × Value)} (X : K.In s.heap) (hm : PySem.W.makesIn K C = true)
    (hi : PySem.W.findIn K (.ref C) "__init__" = some (some (.ref f))) (hf : PySem.W.typeIn K (.ref f) = some (.type "function"))
    (h : codeAny (model prog w) (A.under (.builtin "type.__call__" ⟨.ref C :: vs, kw⟩)) (.call (.ref f) ⟨.ref (s.heap.objs.size + 1) :: vs, kw⟩) (PySem.W.InitBack (s.heap.objs.size + 1) R)
      { s with heap := (s.heap.push PySem.W.emptyDict).push (PySem.W.instObj C s.heap.objs.size) }) :
    codeAny (model prog w) A (.call (.ref C) ⟨vs, kw⟩) R s := by
  obtain ⟨hh, g, d, t, os⟩ := s
  exact PySem.W.make_core (PySem.W.makes_of X hm) (PySem.W.looks_findIn X hi) (fun self => PySem.W.bind_fn X self hf) (.inl rfl) h
/-- C() where there is no __init__ but object's -/
theorem make_map0 {R : Result → Shared → Prop} (X : K.In s.heap) (hm : PySem.W.makesIn K C = true)
    (hi : PySem.W.findIn K (.ref C) "__init__" = some (some (.builtin "object.__init__")))
    (hb : ∀ self, PySem.W.Looks (model prog w) s.heap (bindSpecial (.builtin "object.__init__") self) (.builtin "object.__init__", [self]))
    (h : codeAny (model prog w) (A.under (.builtin "type.__call__" ⟨[.ref C], []⟩)) (.call (.builtin "object.__init__") ⟨[.ref (s.heap.objs.size + 1)], []⟩) (PySem.W.InitBack (s.heap.objs.size + 1) R)
      { s with heap := (s.heap.push PySem.W.emptyDict).push (PySem.W.instObj C s.heap.objs.size) }) :
    codeAny (model prog w) A (.call (.ref C) ⟨[], []⟩) R s := by
  obtain ⟨hh, g, d, t, os⟩ := s
  exact PySem.W.make_core (PySem.W.makes_of X hm) (PySem.W.looks_findIn X hi) hb (.inr ⟨rfl, rfl⟩) h
end

/-! ### the attributes as a list of pairs -/
def putF (f : Str) (v : V) : List (Str × V) → List (Str × V)
  | [] => [(f, v)]
  | (g, x) :: r => if g = f then (g, v) :: r else (g, x) :: putF f v r
theorem lookup_putF (f g : Str) (v : V) : ∀ fs : List (Str × V), (putF f v fs).lookup g = if g = f then some v else fs.lookup g
  | [] => by
    show List.lookup g [(f, v)] = _
    by_cases h : g = f
    · have hb : (g == f) = true := beq_iff_eq.mpr h
      simp only [List.lookup, hb, if_pos h]
    · have hb : (g == f) = false := beq_eq_false_iff_ne.mpr h
      simp only [List.lookup, hb, if_neg h]
  | (k, x) :: r => by
    have ih := lookup_putF f g v r
    rw [show putF f v ((k, x) :: r) = (if k = f then (k, v) :: r else (k, x) :: putF f v r) from rfl]
    by_cases hk : k = f
    · rw [if_pos hk]
      by_cases h : g = k
      · have hb : (g == k) = true := beq_iff_eq.mpr h
        simp only [List.lookup, hb, if_pos (h.trans hk)]
      · have hb : (g == k) = false := beq_eq_false_iff_ne.mpr h
        simp only [List.lookup, hb, if_neg (fun e : g = f => h (e.trans hk.symm))]
    · rw [if_neg hk]
      by_cases h : g = k
      · have hb : (g == k) = true := beq_iff_eq.mpr h
        simp only [List.lookup, hb, if_neg (fun e : g = f => hk (h.symm.trans e))]
      · have hb : (g == k) = false := beq_eq_false_iff_ne.mpr h
        simp only [List.lookup, hb]
        exact ih
theorem keys_putF (f : Str) (v : V) : ∀ fs : List (Str × V), f ∈ (putF f v fs).map (·.1) ∧ ∀ g, g ∈ fs.map (·.1) → g ∈ (putF f v fs).map (·.1)
  | [] => ⟨by simp [putF], fun g h => by simp at h⟩
  | (k, x) :: r => by
    obtain ⟨i1, i2⟩ := keys_putF f v r
    rw [show putF f v ((k, x) :: r) = (if k = f then (k, v) :: r else (k, x) :: putF f v r) from rfl]
    by_cases hk : k = f
    · rw [if_pos hk]
      subst hk
      exact ⟨by simp, fun g h => by simpa using h⟩
    · rw [if_neg hk]
      refine ⟨?_, fun g h => ?_⟩
      · rw [List.map_cons]
        exact List.mem_cons_of_mem _ i1
      · rw [List.map_cons] at h ⊢
        rcases List.mem_cons.mp h with e | e
        · exact List.mem_cons.mpr (.inl e)
        · exact List.mem_cons_of_mem _ (i2 g e)
theorem length_putF (f : Str) (v : V) : ∀ fs : List (Str × V), (putF f v fs).length ≤ fs.length + 1
  | [] => by simp [putF]
  | (k, x) :: r => by
    have ih := length_putF f v r
    rw [show putF f v ((k, x) :: r) = (if k = f then (k, v) :: r else (k, x) :: putF f v r) from rfl]
    by_cases hk : k = f
    · rw [if_pos hk, List.length_cons, List.length_cons]; omega
    · rw [if_neg hk, List.length_cons, List.length_cons]; omega

theorem RelO.some_of {v : V} {o : Option Value} (r : RelO (some v) o) : ∃ u, o = some u ∧ RelV v u := by
  cases o with
  | none => exact (show False from r).elim
  | some u => exact ⟨u, rfl, r⟩
theorem RelO.none_of {o : Option Value} (r : RelO none o) : o = none := by
  cases o with
  | none => rfl
  | some u => exact (show False from r).elim
theorem handed_of {v : V} {u : Value} (r : RelV v u) : PySem.W.handedIn u = true := by
  cases v with
  | non => cases (show u = Value.none from r); rfl
  | bl b => cases (show u = Value.bool b from r); rfl
  | int i => obtain ⟨t, e⟩ := (show ∃ t, u = Value.int i t from r); cases e; rfl
  | str x => obtain ⟨t, e⟩ := (show ∃ t, u = Value.str x t from r); cases e; rfl
  | byt b => obtain ⟨t, e⟩ := (show ∃ t, u = Value.bytes b t from r); cases e; rfl
  | flt b => obtain ⟨t, e⟩ := (show ∃ t, u = Value.float b t from r); cases e; rfl
  | ref a => cases (show u = Value.ref a from r); rfl
  | ty n => cases (show u = Value.type n from r); rfl

section
variable {P : Program} {w : World} {H H' : Hp} {h h' : Heap} {a C dx : Addr} {fs fs' : List (Str × V)}
theorem ins_get (hok : HOk P w H h) (e : H a = some (.ins C dx fs)) : ∃ mA, ObjM h a dx C mA ∧ (∀ f, RelO (fs.lookup f) (mA f)) ∧ PySem.Within mA (fs.map (·.1)) ∧ fs.length ≤ 1000 ∧ H dx = some (.own a) := by
  obtain ⟨d, z, ne, ob, mA, n, r, q⟩ := (show ObjOk P w H h a (.ins C dx fs) from hok a _ e)
  exact ⟨mA, ⟨ob, n, ne⟩, r, q, z, d⟩
end

/-! ### what of the text a class must have -/
structure Cls (K : PySem.W.Frag) (C : Addr) : Prop where
  pg : PySem.W.plainGet K C Str.empty = true
  hd : PySem.W.hasDictIn K C = true
  po : PySem.W.plainOver K C = true
  sa : PySem.W.findIn K (.ref C) "__setattr__" = some (some (.builtin "object.__setattr__"))
theorem Cls.get {K : PySem.W.Frag} {C : Addr} (c : Cls K C) (f : Str) : PySem.W.plainGet K C f = true := c.pg
/-- no class of it has the name -/
def NoAttr (K : PySem.W.Frag) (C : Addr) (f : Str) : Prop := PySem.W.findIn K (.ref C) f = some none
theorem NoAttr.taker {K : PySem.W.Frag} {C : Addr} {f : Str} (n : NoAttr K C f) : PySem.W.takerIn K C f = some none := by
  unfold PySem.W.takerIn
  rw [show PySem.W.findIn K (.ref C) f = some none from n]
  rfl
/-- a constant of the class -/
structure Con (K : PySem.W.Frag) (C : Addr) (f : Str) (v : V) (u : Value) : Prop where
  at_ : PySem.W.findIn K (.ref C) f = some (some u)
  rel : RelV v u
  get : PySem.W.specialIn K u "__get__" = some none
  cp : PySem.W.copiedNames.contains f = false
/-- a method: a plain def of the class or of one above it -/
structure Meth (K : PySem.W.Frag) (C : Addr) (m : Str) (f : Addr) : Prop where
  at_ : PySem.W.findIn K (.ref C) m = some (some (.ref f))
  fn : PySem.W.isFn K (.ref f) = true
  kp : PySem.W.keepIn K (.ref f) = true

section
variable {X : Cx} {pins : List (Addr × Obj)} {σ : St} {H : Hp} {s : Shared} {a C dx : Addr} {fs : List (Str × V)} {f : Str} {v : V} {A : Around} {E : Value → Shared → Prop}

theorem getattr_ok {b : Bool} {Q : Value → Shared → Prop} (I : Inv X pins σ H s) (e : H a = some (.ins C dx fs)) (c : Cls X.K C) (n : NoAttr X.K C f) (l : fs.lookup f = some v)
    (h : ∀ u s', Inv X pins σ H s' → RelV v u → Q u s') : wpAny (model X.prog X.w) A (getAttr (.ref a) f b) Q E s := by
  obtain ⟨mA, O, r, _, _, _⟩ := ins_get I.hok e
  obtain ⟨u, hu, ru⟩ := RelO.some_of (v := v) (o := mA f) (by rw [← l]; exact r f)
  exact get_map I.kIn O (c.get f) c.hd n hu (handed_of ru) (h u _ (I.tok _) ru)

theorem getcon_ok {b : Bool} {u : Value} {Q : Value → Shared → Prop} (I : Inv X pins σ H s) (e : H a = some (.ins C dx fs)) (c : Cls X.K C) (k : Con X.K C f v u) (l : fs.lookup f = none)
    (h : ∀ s', Inv X pins σ H s' → Q u s') : wpAny (model X.prog X.w) A (getAttr (.ref a) f b) Q E s := by
  obtain ⟨mA, O, r, _, _, _⟩ := ins_get I.hok e
  have hn : mA f = none := RelO.none_of (by rw [← l]; exact r f)
  exact get_const I.kIn O (c.get f) c.hd k.at_ k.get k.cp hn (handed_of k.rel) (h _ (I.tok _))

theorem getmeth_ok {m : Str} {g : Addr} {pl : Sem Bool} {Q : Value × List Value → Shared → Prop} (I : Inv X pins σ H s) (e : H a = some (.ins C dx fs)) (c : Cls X.K C) (k : Meth X.K C m g) (l : fs.lookup m = none)
    (h : Q (.ref g, [.ref a]) s) : wpAny (model X.prog X.w) A (getMethod (.ref a) m pl) Q E s := by
  obtain ⟨mA, O, r, _, _, _⟩ := ins_get I.hok e
  have hn : mA m = none := RelO.none_of (by rw [← l]; exact r m)
  exact get_meth I.kIn O (c.get m) k.at_ k.fn hn h

theorem setattr_ok {y : V} {u : Value} {Q : Unit → Shared → Prop} (I : Inv X pins σ H s) (e : H a = some (.ins C dx fs)) (c : Cls X.K C) (n : NoAttr X.K C f) (hl : fs.length < 1000) (ry : RelV y u)
    (h : ∀ s', Inv X pins σ (upd H a (.ins C dx (putF f y fs))) s' → Q () s') : wpAny (model X.prog X.w) A (setAttr (.ref a) f u) Q E s := by
  obtain ⟨mA, O, r, wi, _, ho⟩ := ins_get I.hok e
  have hz : (fs.map (·.1)).length ≤ sizeLine := by rw [List.length_map, sizeLine_eq]; omega
  refine set_map I.kIn O c.sa c.po n.taker c.hd wi hz fun h' O' sb => h _ ?_
  have hd : ∃ o, h'.get? dx = some o := let ⟨o, _, _, e', _⟩ := O'.ns; ⟨o, e'⟩
  refine I.write (x := a) (e := dx) (by rw [e]; exact True.intro) (.inr ho) (fun b q hb z => (sb.2 b hb).trans z) hd ?_
  refine ⟨by rw [upd_ne O.ne]; exact ho, ?_, O.ne, O'.obj, _, O'.ns, fun g => ?_, fun g hg => ?_⟩
  · have := length_putF f y fs; omega
  · show RelO ((putF f y fs).lookup g) (if g = f then some u else mA g)
    rw [lookup_putF]
    by_cases q : g = f
    · rw [if_pos q, if_pos q]; exact ry
    · rw [if_neg q, if_neg q]; exact r g
  · by_cases q : g = f
    · rw [q]; exact (keys_putF f y fs).1
    · refine (keys_putF f y fs).2 g (wi g fun z => hg ?_)
      show (if g = f then some u else mA g) = none
      rw [if_neg q]; exact z

/-- a new instance, tracked, without attributes -/
theorem Inv.made (I : Inv X pins σ H s) : Inv X pins σ (upd (upd H s.heap.objs.size (.own (s.heap.objs.size + 1))) (s.heap.objs.size + 1) (.ins C s.heap.objs.size []))
    { s with heap := (s.heap.push PySem.W.emptyDict).push (PySem.W.instObj C s.heap.objs.size) } := by
  have e1 : (s.heap.push PySem.W.emptyDict).get? s.heap.objs.size = some PySem.W.emptyDict := Heap.get?_push_size s.heap rfl
  have e2 : ((s.heap.push PySem.W.emptyDict).push (PySem.W.instObj C s.heap.objs.size)).get? (s.heap.objs.size + 1) = some (PySem.W.instObj C s.heap.objs.size) := by
    have := Heap.get?_push_size (s.heap.push PySem.W.emptyDict) (o := PySem.W.instObj C s.heap.objs.size) rfl
    rwa [Heap.size_push] at this
  have e3 : (s.heap.push PySem.W.emptyDict).Ns s.heap.objs.size (fun _ => none) := ⟨PySem.W.emptyDict, #[], _, e1, rfl, (fun e he => absurd he (by simp)), fun _ => rfl⟩
  have I1 := I.laid (a := s.heap.objs.size) (o := .own (s.heap.objs.size + 1)) (h' := s.heap.push PySem.W.emptyDict) (t' := s.toks) (fun b u q => Heap.get?_push_of_some _ q) (Nat.le_refl _) ⟨_, e1⟩
  refine I1.laid (a := s.heap.objs.size + 1) (o := .ins C s.heap.objs.size []) (t' := s.toks) (fun b u q => Heap.get?_push_of_some _ q) (Nat.le_of_eq (Heap.size_push _ _)) ?_
  have ne : s.heap.objs.size ≠ s.heap.objs.size + 1 := Nat.ne_of_lt (Nat.lt_succ_self _)
  refine ⟨by rw [upd_ne ne, upd_same], Nat.zero_le _, ne, e2, fun _ => none, (Heap.Ns1.of_empty e3).at fun o q => Heap.get?_push_of_some _ q, fun _ => True.intro, fun y hy => absurd rfl hy⟩

/-- e.f where nothing but the object is asked: through attributeBase (super) and the last hold -/
theorem attr_of {prog : Program} {w : World} {env : Env} {e : Expr} {f : Str} {pos : Pos} {s : Shared} {Q : Value → Shared → Prop} (hb : attributeBase e f env (eval e env) = eval e env)
    (h : wpAny (model prog w) A (eval e env) (fun o s₁ => wpAny (model prog w) A (getAttr o f true) Q E s₁) E s) : wpAny (model prog w) A (eval (.Attribute e f pos) env) Q E s :=
  Attribute_any_ h (by rw [arm_eval_Attribute, hb])
end

/-! ### readings and rules -/
/-- e.f, an attribute of the instance -/
def tFld (K : PySem.W.Frag) (ta : TE) (f : Str) : TE := fun σ H Q => ta σ H fun x H1 => ∃ a C dx fs v, x = .ref a ∧ H1 a = some (.ins C dx fs) ∧ Cls K C ∧ NoAttr K C f ∧ fs.lookup f = some v ∧ Q v H1
/-- e.f, a constant of the class -/
def tCon (K : PySem.W.Frag) (ta : TE) (f : Str) : TE := fun σ H Q => ta σ H fun x H1 => ∃ a C dx fs v u, x = .ref a ∧ H1 a = some (.ins C dx fs) ∧ Cls K C ∧ Con K C f v u ∧ fs.lookup f = none ∧ Q v H1
/-- e.f = value -/
def sFld (K : PySem.W.Frag) (ta tv : TE) (f : Str) : TS := fun D σ H => tv σ H fun y H1 => ta σ H1 fun x H2 => ∃ a C dx fs, x = .ref a ∧ H2 a = some (.ins C dx fs) ∧ Cls K C ∧ NoAttr K C f ∧ fs.length < 1000 ∧
  D.nx σ (upd H2 a (.ins C dx (putF f y fs)))
/-- an augmented operator on two values -/
def InOp (X : Cx) (op : Operator) (rd : V → V → Hp → VK → Prop) : Prop :=
  ∀ (pins : List (Addr × Obj)) (s : Shared) (σ : St) (H : Hp) (x y : V) (u v : Value) (Q : VK), Inv X pins σ H s → RelV x u → RelV y v → rd x y H Q → wpAny (model X.prog X.w) X.A (inplaceOp op u v) (EP X pins σ Q) X.xe s
/-- e.f op= value -/
def sFldAug (K : PySem.W.Frag) (ta tv : TE) (rd : V → V → Hp → VK → Prop) (f : Str) : TS := fun D σ H => ta σ H fun x H1 => ∃ a C dx fs v, x = .ref a ∧ H1 a = some (.ins C dx fs) ∧ Cls K C ∧ NoAttr K C f ∧ fs.lookup f = some v ∧
  tv σ H1 fun y H2 => rd v y H2 fun z H3 => ∃ dx' fs', H3 a = some (.ins C dx' fs') ∧ fs'.length < 1000 ∧ D.nx σ (upd H3 a (.ins C dx' (putF f z fs')))

section
variable {X : Cx} {o e value : Expr} {f : Str} {pos pos' tpos : Pos} {ta tv : TE}
theorem pe_fld (he : PE X e ta) (hb : attributeBase e f X.env (eval e X.env) = eval e X.env) : PE X (.Attribute e f pos) (tFld X.K ta f) := by
  intro pins s σ H Q I h
  refine attr_of hb (thn (he pins s σ H _ I h) fun u s1 ⟨x, H1, I1, rx, a, C, dx, fs, v, ex, ea, c, n, l, q⟩ => ?_)
  subst ex
  obtain rfl : u = Value.ref a := rx
  exact getattr_ok I1 ea c n l fun u' s2 I2 ru => ⟨v, H1, I2, ru, q⟩
theorem pe_con (he : PE X e ta) (hb : attributeBase e f X.env (eval e X.env) = eval e X.env) : PE X (.Attribute e f pos) (tCon X.K ta f) := by
  intro pins s σ H Q I h
  refine attr_of hb (thn (he pins s σ H _ I h) fun u s1 ⟨x, H1, I1, rx, a, C, dx, fs, v, u0, ex, ea, c, k, l, q⟩ => ?_)
  subst ex
  obtain rfl : u = Value.ref a := rx
  exact getcon_ok I1 ea c k l fun s2 I2 => ⟨v, H1, I2, k.rel, q⟩
theorem ps_fld (ha : PE X o ta) (hv : PE X value tv) (hs : swapsWith value (some (.Attribute o f pos')) pos.line X.env = pure false) : PS X (.Assign [.Attribute o f pos'] value pos) (sFld X.K ta tv f) := by
  intro pins s σ H D I h
  refine plainObj_wpAny_Assign_Attribute (thn (hv pins s σ H _ I h) fun u s1 ⟨y, H1, I1, ry, q⟩ => thn (ha pins s1 σ H1 _ I1 q) fun ov s2 ⟨x, H2, I2, rx, a, C, dx, fs, ex, ea, c, n, l, q2⟩ => ?_) hs
  subst ex
  obtain rfl : ov = Value.ref a := rx
  exact setattr_ok I2 ea c n l ry fun s3 I3 => ⟨σ, _, I3, q2⟩
theorem ps_fldaug {op : Operator} {rd : V → V → Hp → VK → Prop} (ha : PE X o ta) (hv : PE X value tv) (hop : InOp X op rd) : PS X (.AugAssign (.Attribute o f tpos) op value pos) (sFldAug X.K ta tv rd f) := by
  intro pins s σ H D I h
  refine wpAny_AugAssign_AttributeAny (thn (ha pins s σ H _ I h) fun ov s1 ⟨x, H1, I1, rx, a, C, dx, fs, v, ex, ea, c, n, l, q⟩ => ?_)
  subst ex
  obtain rfl : ov = Value.ref a := rx
  refine getattr_ok I1 ea c n l fun u s2 I2 ru => thn (hv pins s2 σ H1 _ I2 q) fun w3 s3 ⟨y, H2, I3, ry, q3⟩ => thn (hop pins s3 σ H2 v y u w3 _ I3 ru ry q3) fun w4 s4 ⟨z, H3, I4, rz, dx', fs', ea', l', q4⟩ => ?_
  exact setattr_ok I4 ea' c n l' rz fun s5 I5 => ⟨σ, _, I5, q4⟩
def rAdd : V → V → Hp → VK → Prop := fun x y H Q => ∃ i j, x = .int i ∧ y = .int j ∧ Q (.int (i + j)) H
def rSub : V → V → Hp → VK → Prop := fun x y H Q => ∃ i j, x = .int i ∧ y = .int j ∧ Q (.int (i - j)) H
theorem in_add : InOp X .Add rAdd := by
  rintro pins s σ H x y u v Q I rx ry ⟨i, j, rfl, rfl, q⟩
  obtain ⟨t, rfl⟩ := (show ∃ t, u = Value.int i t from rx)
  obtain ⟨t', rfl⟩ := (show ∃ t', v = Value.int j t' from ry)
  exact PyProof.Rows.iadd_int ⟨.int (i + j), H, I.tok _, ⟨_, rfl⟩, q⟩
theorem in_sub : InOp X .Sub rSub := by
  rintro pins s σ H x y u v Q I rx ry ⟨i, j, rfl, rfl, q⟩
  obtain ⟨t, rfl⟩ := (show ∃ t, u = Value.int i t from rx)
  obtain ⟨t', rfl⟩ := (show ∃ t', v = Value.int j t' from ry)
  exact PyProof.Rows.isub_int ⟨.int (i - j), H, I.tok _, ⟨_, rfl⟩, q⟩

/-- what is between an instance and its method: the tree of a method call -/
theorem methcall_of {pl : Sem Bool} {m : Str} {apos : Pos} {args : List Expr} {pins : List (Addr × Obj)} {s : Shared} {σ : St} {H : Hp} {Q : Value → Shared → Prop} {te : TE} (he : PE X e te) (I : Inv X pins σ H s)
    (h : te σ H fun x H1 => ∃ a C dx fs g, x = .ref a ∧ H1 a = some (.ins C dx fs) ∧ Cls X.K C ∧ Meth X.K C m g ∧ fs.lookup m = none ∧
      ∀ s1, Inv X pins σ H1 s1 → wpAny (model X.prog X.w) X.A (callWith pos (.ref g) [.ref a] (backTo pos (starEach args X.env)) (backToKw pos (keywordEach [] X.env))) Q X.xe s1)
    (ht : eval (.Call (.Attribute e m apos) args [] pos) X.env = (do
      let ov ← eval e X.env
      standAt apos.atName
      let (f, first) ← holding [ov] (getMethod ov m pl)
      callWith pos f first (backTo pos (starEach args X.env)) (backToKw pos (keywordEach [] X.env)))) :
    wpAny (model X.prog X.w) X.A (eval (.Call (.Attribute e m apos) args [] pos) X.env) Q X.xe s := by
  refine PySem.W.methodCall_KW (pl := pl) (thn (he pins s σ H _ I h) fun u s1 ⟨x, H1, I1, rx, a, C, dx, fs, g, ex, ea, c, k, l, q⟩ => ?_) ht
  subst ex
  obtain rfl : u = Value.ref a := rx
  exact getmeth_ok I1 ea c k l (q s1 I1)
end

/-! ### isinstance -/
section
variable {X : Cx} {pins : List (Addr × Obj)} {σ : St} {H : Hp} {s : Shared} {A : Around} {E : Value → Shared → Prop} {Q : Value → Shared → Prop} {c : Value} {b : Bool}
/-- the type of a value, as the fragment's deciders take it; for an instance its class -/
inductive TyOf (K : PySem.W.Frag) (H : Hp) : V → Value → Prop where
  | non : TyOf K H .non (.type "NoneType")
  | bl (x : Bool) : TyOf K H (.bl x) (.type "bool")
  | int (i : Int) : TyOf K H (.int i) (.type "int")
  | str (x : Str) : TyOf K H (.str x) (.type "str")
  | flt (x : UInt64) : TyOf K H (.flt x) (.type "float")
  | lst {a : Addr} {xs : List V} (e : H a = some (.lst xs)) : TyOf K H (.ref a) (.type "list")
  | frz {a : Addr} {o : Obj} {xs : List V} (e : H a = some (.frz o (.lst xs))) : TyOf K H (.ref a) (.type "list")
  | tup {a : Addr} {xs : List V} (e : H a = some (.tup xs)) : TyOf K H (.ref a) (.type "tuple")
  | dK {a : Addr} {kvs : List (Key × V)} (e : H a = some (.dK kvs)) : TyOf K H (.ref a) (.type "dict")
  | dT {a : Addr} {kvs : List (List Key × V)} (e : H a = some (.dT kvs)) : TyOf K H (.ref a) (.type "dict")
  | ins {a C dx : Addr} {fs : List (Str × V)} (e : H a = some (.ins C dx fs)) (cl : Cls K C) (ha : PySem.W.findIn K (.ref C) "__class__" = some (some (.builtin "object.__class__")))
      (hn : PySem.W.specialIn K (.builtin "object.__class__") "__get__" = some (some (.builtin "getset_descriptor.__get__"))) (htk : PySem.W.takesIn K (.builtin "object.__class__") = some true)
      (hm : PySem.W.mroIn K C (.type "object") = some true) : TyOf K H (.ref a) (.ref C)
/-- isinstance(x, c) for one class c, a built-in or an own one: kitOne's answer -/
theorem isinst_ok {x : V} {u t : Value} (I : Inv X pins σ H s) (rx : RelV x u) (ty : TyOf X.K H x t) (e : PySem.W.kitOne X.K t c = some b) (h : ∀ tk, Q (.bool b) { s with toks := tk }) :
    wpAny (model X.prog X.w) A (call (.builtin "isinstance") [u, c]) Q E s := by
  cases ty with
  | non => cases (show u = Value.none from rx); exact PySem.W.kia_one PySem.W.kitx_none I.kIn True.intro e (fun z => nomatch z) h
  | bl y => cases (show u = Value.bool y from rx); exact PySem.W.kia_one PySem.W.kitx_bool I.kIn True.intro e (fun z => nomatch z) h
  | int i => obtain ⟨t, q⟩ := (show ∃ t, u = Value.int i t from rx); cases q; exact PySem.W.kia_one PySem.W.kitx_int I.kIn True.intro e (fun z => nomatch z) h
  | str y => obtain ⟨t, q⟩ := (show ∃ t, u = Value.str y t from rx); cases q; exact PySem.W.kia_one PySem.W.kitx_str I.kIn True.intro e (fun z => nomatch z) h
  | flt y => obtain ⟨t, q⟩ := (show ∃ t, u = Value.float y t from rx); cases q; exact PySem.W.kia_one PySem.W.kitx_float I.kIn True.intro e (fun z => nomatch z) h
  | @lst a xs ea =>
    cases (show u = Value.ref a from rx)
    obtain ⟨_, _, n, _, h1⟩ := (show ObjOk X.prog X.w H s.heap a (.lst xs) from I.hok a _ ea)
    exact PySem.W.kia_one PySem.W.kitx_list I.kIn ⟨_, h1, rfl⟩ e (fun z => nomatch z) h
  | @frz a ob xs ea =>
    cases (show u = Value.ref a from rx)
    obtain ⟨_, _, _, n, _, h1⟩ := (show ObjOk X.prog X.w H s.heap a (.frz ob (.lst xs)) from I.hok a _ ea)
    exact PySem.W.kia_one PySem.W.kitx_list I.kIn ⟨_, h1, rfl⟩ e (fun z => nomatch z) h
  | @tup a xs ea =>
    cases (show u = Value.ref a from rx)
    obtain ⟨_, _, _, p⟩ := (show ObjOk X.prog X.w H s.heap a (.tup xs) from I.hok a _ ea)
    obtain ⟨o, h1, h2, _⟩ := p
    exact PySem.W.kia_one PySem.W.kitx_tuple I.kIn ⟨o, h1, h2⟩ e (fun z => nomatch z) h
  | @dK a kvs ea =>
    cases (show u = Value.ref a from rx)
    obtain ⟨_, _, vs, _, p⟩ := (show ObjOk X.prog X.w H s.heap a (.dK kvs) from I.hok a _ ea)
    obtain ⟨o, es, ep, h1, h2, _⟩ := p
    exact PySem.W.kia_one PySem.W.kitx_dict I.kIn ⟨o, h1, h2.1⟩ e (fun z => nomatch z) h
  | @dT a kvs ea =>
    cases (show u = Value.ref a from rx)
    obtain ⟨_, _, xs, _, o, es, ep, h1, h2, _⟩ := (show ObjOk X.prog X.w H s.heap a (.dT kvs) from I.hok a _ ea)
    exact PySem.W.kia_one PySem.W.kitx_dict I.kIn ⟨o, h1, h2.1⟩ e (fun z => nomatch z) h
  | @ins a C dx fs ea cl ha hn htk hm =>
    cases (show u = Value.ref a from rx)
    obtain ⟨mA, O, _⟩ := ins_get I.hok ea
    obtain ⟨od, J, _⟩ := O.look
    exact PySem.W.kia_one (PySem.W.kitx_own (cl.get _) cl.hd ha hn htk hm) I.kIn J e (fun z => nomatch z) h
end
end L2

namespace L2
open PySem PySem.Spec PyProof.Rows

/-! ### room -/
structure Room (k : Nat) (A : Around) : Prop where
  hd : A.handled = none
  dp : A.depth + 3 * k + 5 < recursionLimit
  un : A.units + 16 * k + 200 < cLine
  gd : A.guards = some []
theorem Room.mono {j k : Nat} {A : Around} (r : Room k A) (h : j ≤ k) : Room j A := ⟨r.hd, by have := r.dp; omega, by have := r.un; omega, r.gd⟩
theorem Room.deeper {k : Nat} {A : Around} (r : Room (k + 1) A) (env : Env) : Room k (A.deeper env) :=
  ⟨r.hd, by have := r.dp; show A.depth + 1 + 3 * k + 5 < _; omega, by have := r.un; show A.units + 3 + 16 * k + 200 < _; omega, by first | exact r.gd | (show pushGuards _ A.guards = _; rw [r.gd]; rfl)⟩
theorem Room.in1 {k : Nat} {A : Around} (r : Room (k + 1) A) : Room k A.in1 :=
  ⟨r.hd, by have := r.dp; show A.depth + 3 * k + 5 < _; omega, by have := r.un; show A.units + 1 + 16 * k + 200 < _; omega, r.gd⟩
theorem make_depth {A : Around} {C : Addr} {us : List Value} {kw : List (Str × Value)} : (A.under (.builtin "type.__call__" ⟨.ref C :: us, kw⟩)).depth = A.depth + 1 := by
  first | rfl | simp [Around.under, Code.weight, Code.isCreation, Code.isGuard, Code.isCaller, Code.frames, Code.isFrame, guardIds]
theorem make_units {A : Around} {C : Addr} {us : List Value} {kw : List (Str × Value)} : (A.under (.builtin "type.__call__" ⟨.ref C :: us, kw⟩)).units = A.units + 1 := by
  first | rfl | simp [Around.under, Code.cUnits, Code.frames, Code.isFrame]
theorem make_guards {A : Around} {C : Addr} {us : List Value} {kw : List (Str × Value)} (h : A.guards = some []) : (A.under (.builtin "type.__call__" ⟨.ref C :: us, kw⟩)).guards = some [] := by
  have e : (Code.builtin "type.__call__" ⟨.ref C :: us, kw⟩).guards = [] := by
    unfold Code.guards
    have : (Code.builtin "type.__call__" ⟨.ref C :: us, kw⟩).isGuard = false := by first | rfl | decide +kernel | simp [Code.isGuard, guardIds]
    rw [this]; rfl
  unfold Around.under
  simp only [e, h]
  rfl
theorem Room.make {k : Nat} {A : Around} (r : Room (k + 1) A) (C : Addr) (us : List Value) (kw : List (Str × Value)) : Room k (A.under (.builtin "type.__call__" ⟨.ref C :: us, kw⟩)) :=
  ⟨r.hd, by have := r.dp; rw [make_depth]; omega, by have := r.un; rw [make_units]; omega, make_guards r.gd⟩
theorem Room.depth {k : Nat} {A : Around} (r : Room k A) : A.depth < recursionLimit := by have := r.dp; omega
theorem Room.units {k : Nat} {A : Around} (r : Room k A) : A.units + 64 < cLine := by have := r.un; omega
theorem Room.units0 {k : Nat} {A : Around} (r : Room k A) : A.units < cLine := by have := r.un; omega

/-! ### argument lists and displays -/
def tNil : TA := fun _ H Q => Q [] H
def tCons (ta : TE) (tr : TA) : TA := fun σ H Q => ta σ H fun x H1 => tr σ H1 fun xs H2 => Q (x :: xs) H2
section
variable {X : Cx} {e : Expr} {es : List Expr} {te : TE} {t : TA} {pos : Pos}
theorem pa_nil : PA X [] tNil := fun _ _ _ _ H Q I h => Calls.spliced_nil ⟨[], H, I, .nil, h⟩
theorem pa_cons (ha : PE X e te) (hr : PA X es t) (hs : starEach (e :: es) X.env = (false, eval e X.env) :: starEach es X.env := by rfl) : PA X (e :: es) (tCons te t) := by
  intro pos pins s σ H Q I h
  rw [hs]
  show wpAny _ _ (spliced ((false, eval e X.env) :: backTo pos (starEach es X.env))) _ _ s
  refine Calls.spliced_cons (thn (ha pins s σ H _ I h) fun u s1 ⟨x, H1, I1, r1, q1⟩ => ?_)
  exact thn (hr pos pins s1 σ H1 _ I1 q1) fun us s2 ⟨xs, H2, I2, r2, q2⟩ => ⟨x :: xs, H2, I2, .cons r1 r2, q2⟩

/-- a tuple, a list of written items -/
def tTup (t : TA) : TE := fun σ H Q => t σ H fun xs H1 => xs.length ≤ sizeLine ∧ ∀ p, H1 p = none → Q (.ref p) (upd H1 p (.tup xs))
def tLst (t : TA) : TE := fun σ H Q => t σ H fun xs H1 => xs.length ≤ sizeLine ∧ ∀ p, H1 p = none → Q (.ref p) (upd H1 p (.lst xs))
theorem pe_tup {x1} (h : PA X es t) : PE X (.Tuple es x1 pos) (tTup t) := by
  intro pins s σ H Q I hq
  refine wpAny_Tuple_spliced (thn (h pos pins s σ H _ I hq) fun us s1 ⟨xs, H1, I1, r, z, q⟩ => ⟨by rw [← r.length]; exact z, ?_⟩)
  have hf : H1 s1.heap.objs.size = none := I1.hok.fresh (Nat.le_refl _)
  refine ⟨.ref s1.heap.objs.size, upd H1 s1.heap.objs.size (.tup xs), I1.laid (t' := s1.toks) (fun b u e => Heap.get?_push_of_some _ e) (Nat.le_refl _) ?_, rfl, q _ hf⟩
  exact ⟨z, us, r, ⟨_, Heap.get?_push_size _ rfl, rfl, _, rfl⟩⟩
theorem pe_lst (h : PA X es t) : PE X (.List es pos) (tLst t) := by
  intro pins s σ H Q I hq
  refine wpAny_List_spliced (thn (h pos pins s σ H _ I hq) fun us s1 ⟨xs, H1, I1, r, z, q⟩ => ⟨by rw [← r.length]; exact z, ?_⟩)
  have hf : H1 s1.heap.objs.size = none := I1.hok.fresh (Nat.le_refl _)
  refine ⟨.ref s1.heap.objs.size, upd H1 s1.heap.objs.size (.lst xs), I1.laid (t' := s1.toks) (fun b u e => Heap.get?_push_of_some _ e) (Nat.le_refl _) ?_, rfl, q _ hf⟩
  exact ⟨z, us, 0, r, Heap.get?_push_size _ rfl⟩
end

/-! ### what a def promises -/
/-- a def's promise: the bound arguments in the parameters' order, the heap, the wanted end, the wanted exception -/
abbrev Sp := List V → Hp → VK → XK → Prop
/-- how an exception lies behind a call (file 08 gives it): the callers' frames, abstract heap and state ahead of the call, the wish, the exception, the state -/
abbrev CXT := List Env → Hp → Shared → XK → Value → Shared → Prop

/-- the state at a call -/
structure Env0 (P : Program) (w : World) (K : PySem.W.Frag) (mg : Str → Option Value) (base : Heap) (A : Around) (outer : List Env) (s : Shared) (H : Hp) : Prop where
  frames : A.frames = some outer
  mod : Mod K mg base
  bs : ∀ b o, base.get? b = some o → s.heap.get? b = some o ∧ H b = none
  bsz : base.objs.size ≤ s.heap.objs.size
  funs : s.heap.FunFrames base outer
  frf : ∀ b ∈ frs outer, H b = none
  hok : HOk P w H s.heap
  bare : AllBare s.gens
/-- a call's end -/
def CE (outer : List Env) (P : Program) (w : World) (H : Hp) (s : Shared) (Q : VK) (u : Value) (s' : Shared) : Prop :=
  ∃ v H', s'.os = s.os ∧ AllBare s'.gens ∧ Un (frs outer) [] H H' s.heap s'.heap ∧ HOk P w H' s'.heap ∧ RelV v u ∧ Q v H'
def CR (CX : CXT) (outer : List Env) (P : Program) (w : World) (H : Hp) (s : Shared) (Q : VK) (E : XK) (r : Result) (s' : Shared) : Prop :=
  match r with
  | .ok (.ret u) => CE outer P w H s Q u s'
  | .ok _ => False
  | .error e => CX outer H s E e s'
structure FnOk (P : Program) (w : World) (K : PySem.W.Frag) (mg : Str → Option Value) (base : Heap) (CX : CXT) (k : Nat) (f : Addr) (fd : FuncData) (ps : List Str) (sp : Sp) : Prop where
  len : ∀ vs H Q E, sp vs H Q E → vs.length = ps.length
  run : ∀ (A : Around) (outer : List Env) (s : Shared) (H : Hp) (args : Args) (us : List Value) (vs : List V) (Q : VK) (E : XK), Room k A → Env0 P w K mg base A outer s H → BindsTo s fd args (ps.zip us) → Vals vs us → sp vs H Q E →
    codeAny (model P w) A (.call (.ref f) args) (CR CX outer P w H s Q E) s
theorem FnOk.mono {P : Program} {w : World} {K : PySem.W.Frag} {mg : Str → Option Value} {base : Heap} {CX : CXT} {j k : Nat} {f : Addr} {fd : FuncData} {ps : List Str} {sp : Sp} (F : FnOk P w K mg base CX j f fd ps sp) (h : j ≤ k) :
    FnOk P w K mg base CX k f fd ps sp := ⟨F.len, fun A outer s H args us vs Q E hr => F.run A outer s H args us vs Q E (hr.mono h)⟩
/-- a weaker promise -/
theorem FnOk.imp {P : Program} {w : World} {K : PySem.W.Frag} {mg : Str → Option Value} {base : Heap} {CX : CXT} {k : Nat} {f : Addr} {fd : FuncData} {ps : List Str} {sp sp' : Sp} (F : FnOk P w K mg base CX k f fd ps sp)
    (h : ∀ vs H Q E, sp' vs H Q E → sp vs H Q E) : FnOk P w K mg base CX k f fd ps sp' :=
  ⟨fun vs H Q E q => F.len vs H Q E (h _ _ _ _ q), fun A outer s H args us vs Q E hr he hb hv hs => F.run A outer s H args us vs Q E hr he hb hv (h _ _ _ _ hs)⟩

theorem Env0.make {P : Program} {w : World} {K : PySem.W.Frag} {mg : Str → Option Value} {base : Heap} {A : Around} {outer : List Env} {s : Shared} {H : Hp} (e : Env0 P w K mg base A outer s H) (C : Addr) (us : List Value) (kw : List (Str × Value)) :
    Env0 P w K mg base (A.under (.builtin "type.__call__" ⟨.ref C :: us, kw⟩)) outer s H := ⟨by first | exact e.frames | (simpa [Around.under, Code.envs, Code.isFrame, pushEnvs] using e.frames), e.mod, e.bs, e.bsz, e.funs, e.frf, e.hok, e.bare⟩
theorem Env0.in1 {P : Program} {w : World} {K : PySem.W.Frag} {mg : Str → Option Value} {base : Heap} {A : Around} {outer : List Env} {s : Shared} {H : Hp} (e : Env0 P w K mg base A outer s H) :
    Env0 P w K mg base A.in1 outer s H := ⟨e.frames, e.mod, e.bs, e.bsz, e.funs, e.frf, e.hok, e.bare⟩

section
variable {X : Cx} {pins : List (Addr × Obj)} {σ : St} {H : Hp} {s s' : Shared}
/-- from a body: what a callee wants -/
theorem Inv.env0 (I : Inv X pins σ H s) : Env0 X.prog X.w X.K X.mg X.base X.A X.stack s H :=
  ⟨I.ok.frames, I.ok.mod, I.bs, Nat.le_trans I.ok.bsz I.sz, I.stack, I.stkFree, I.hok, I.bare⟩
/-- behind a call -/
theorem Inv.after {Q : VK} {u : Value} (I : Inv X pins σ H s) (h : CE X.stack X.prog X.w H s Q u s') : EP X pins σ Q u s' := by
  obtain ⟨v, H', os, bare, un, hok, r, q⟩ := h
  obtain ⟨hh, g, d, t, os'⟩ := s'
  obtain rfl : os' = s.os := os
  exact ⟨v, H', I.call (h' := hh) (g' := g) (d' := d) (t' := t) (ch := []) un hok bare (fun b z => absurd z (by simp)), r, q⟩
end

/-! ### calls -/
/-- f(..): the written arguments, then the defaults dvs; E: what is wanted of an exception -/
def tCall (sp : Sp) (dvs : List V) (E : XK) (t : TA) : TE := fun σ H Q => t σ H fun vs H1 => sp (vs ++ dvs) H1 Q E
/-- o.m(..) of an instance of the class at C -/
def tMeth (C : Addr) (m : Str) (sp : Sp) (dvs : List V) (E : XK) (ta : TE) (t : TA) : TE := fun σ H Q => ta σ H fun x H1 => ∃ a dx fs, x = .ref a ∧ H1 a = some (.ins C dx fs) ∧ fs.lookup m = none ∧
  t σ H1 fun vs H2 => sp (x :: (vs ++ dvs)) H2 Q E
/-- C(..): a new instance and its dict, then __init__ -/
def tMake (C : Addr) (sp : Sp) (dvs : List V) (E : XK) (t : TA) : TE := fun σ H Q => t σ H fun vs H1 => ∀ x dx, H1 x = none → H1 dx = none → dx ≠ x →
  sp (.ref x :: (vs ++ dvs)) (upd (upd H1 dx (.own x)) x (.ins C dx [])) (fun v H2 => v = .non ∧ Q (.ref x) H2) E

/-- how the parameters are bound: us the positional arguments, kw the keywords' values by name, ds the defaults that fill up -/
def Binds (K : PySem.W.Frag) (fd : FuncData) (ps : List Str) (ds : List Value) : Prop :=
  ∀ (s : Shared) (us : List Value), K.In s.heap → (us ++ ds).length = ps.length → BindsTo s fd ⟨us, []⟩ (ps.zip (us ++ ds))
/-- every parameter is given -/
theorem Binds.all {K : PySem.W.Frag} {fd : FuncData} {ps : List Str} (h : ∀ us : List Value, us.length = ps.length → bindArgs fd ⟨us, []⟩ = pure (ps.zip us)) : Binds K fd ps [] := fun s us _ hl => by
  rw [List.append_nil] at hl ⊢
  exact .of_eq (h us hl)

/-- an exception of a callee reaches what this body wants of exceptions -/
def Passes (CX : CXT) (X : Cx) (E : XK) : Prop := ∀ (pins : List (Addr × Obj)) (σ : St) (H : Hp) (s : Shared) (e : Value) (s' : Shared), Inv X pins σ H s → CX X.stack H s E e s' → X.xe e s'

section
variable {X : Cx} {CX : CXT} {k : Nat} {f C : Addr} {fd : FuncData} {ps : List Str} {sp : Sp} {dvs : List V} {ds : List Value} {E : XK} {x m : Str} {p pos apos : Pos} {e o : Expr} {es : List Expr} {ta : TE} {t : TA}

/-- the callee runs -/
theorem run_fn {pins : List (Addr × Obj)} {σ : St} {H : Hp} {s : Shared} {Q : VK} {us : List Value} {vs : List V} (F : FnOk X.prog X.w X.K X.mg X.base CX k f fd ps sp) (hr : Room k X.A) (hb : Binds X.K fd ps ds) (hd : Vals dvs ds) (hx : Passes CX X E)
    (I : Inv X pins σ H s) (r : Vals vs us) (h : sp (vs ++ dvs) H Q E) : wpAny (model X.prog X.w) X.A (call (.ref f) us) (EP X pins σ Q) X.xe s := by
  have r2 : Vals (vs ++ dvs) (us ++ ds) := r.append hd
  have hl : (us ++ ds).length = ps.length := by rw [← r2.length]; exact F.len _ _ _ _ h
  refine wpAny_call (codeAny_mono (F.run X.A X.stack s H ⟨us, []⟩ (us ++ ds) (vs ++ dvs) Q E hr I.env0 (hb s us I.kIn hl) r2 h) fun r s' hq => ?_)
  cases r with
  | error e => exact hx pins σ H s e s' I hq
  | ok fl =>
    cases fl with
    | ret u => exact I.after hq
    | next => exact False.elim hq
    | brk => exact False.elim hq
    | cont => exact False.elim hq

theorem pe_call (F : FnOk X.prog X.w X.K X.mg X.base CX k f fd ps sp) (hr : Room k X.A) (hg : Gl X x) (hm : X.mg x = some (.ref f)) (hk : PySem.W.keepIn X.K (.ref f) = true) (hb : Binds X.K fd ps ds) (hd : Vals dvs ds) (hx : Passes CX X E)
    (ha : PA X (e :: es) t) (hdb : (x == ("__debug__" : Str)) = false := by decide) (he : starEach (e :: es) X.env = (false, eval e X.env) :: starEach es X.env := by rfl) (hpl : (backTo pos (starEach es X.env)).any (·.1) = false := by rfl) :
    PE X (.Call (.Name x p) (e :: es) [] pos) (tCall sp dvs E t) := by
  intro pins s σ H Q I h
  refine wpAny_Call_Name_kw (ld_glob I hg hm ?_ hdb)
  refine PySem.W.callWith_K (h₀ := X.base) I.ok.mod.kin hk (thn (ha pos pins s σ H _ I h) fun us s1 ⟨vs, H1, I1, r, q⟩ => ⟨I1.kIn, ?_⟩) he hpl
  exact run_fn F hr hb hd hx I1 r q
theorem pe_call0 (F : FnOk X.prog X.w X.K X.mg X.base CX k f fd ps sp) (hr : Room k X.A) (hg : Gl X x) (hm : X.mg x = some (.ref f)) (hk : PySem.W.keepIn X.K (.ref f) = true) (hb : Binds X.K fd ps ds) (hd : Vals dvs ds) (hx : Passes CX X E)
    (hdb : (x == ("__debug__" : Str)) = false := by decide) : PE X (.Call (.Name x p) [] [] pos) (tCall sp dvs E tNil) := by
  intro pins s σ H Q I h
  refine wpAny_Call_Name_kw (ld_glob I hg hm ?_ hdb)
  exact PySem.W.callWith_K0 I.kIn hk (run_fn (us := []) F hr hb hd hx I .nil h)

/-- o.m(e, ..) -/
theorem pe_meth {pl : Sem Bool} (he : PE X o ta) (c : Cls X.K C) (hm : Meth X.K C m f) (F : FnOk X.prog X.w X.K X.mg X.base CX k f fd ps sp) (hr : Room k X.A) (hb : Binds X.K fd ps ds) (hd : Vals dvs ds) (hx : Passes CX X E) (ha : PA X (e :: es) t)
    (hst : starEach (e :: es) X.env = (false, eval e X.env) :: starEach es X.env := by rfl) (hpl : (backTo pos (starEach es X.env)).any (·.1) = false := by rfl)
    (ht : eval (.Call (.Attribute o m apos) (e :: es) [] pos) X.env = (do
      let ov ← eval o X.env
      standAt apos.atName
      let (f, first) ← holding [ov] (getMethod ov m pl)
      callWith pos f first (backTo pos (starEach (e :: es) X.env)) (backToKw pos (keywordEach [] X.env))) := by rfl) :
    PE X (.Call (.Attribute o m apos) (e :: es) [] pos) (tMeth C m sp dvs E ta t) := by
  intro pins s σ H Q I h
  refine PySem.W.methodCall_KW (pl := pl) (thn (he pins s σ H _ I h) fun u s1 ⟨x, H1, I1, rx, a, dx, fs, ex, ea, l, q⟩ => ?_) ht
  subst ex
  obtain rfl : u = Value.ref a := rx
  refine getmeth_ok I1 ea c hm l ?_
  refine PySem.W.callWith_K (first := [.ref a]) (h₀ := X.base) I.ok.mod.kin hm.kp (thn (ha pos pins s1 σ H1 _ I1 q) fun us s2 ⟨vs, H2, I2, r, q2⟩ => ⟨I2.kIn, ?_⟩) hst hpl
  exact run_fn (us := .ref a :: us) (vs := .ref a :: vs) F hr hb hd hx I2 (.cons rfl r) q2
/-- o.m() -/
theorem pe_meth0 {pl : Sem Bool} (he : PE X o ta) (c : Cls X.K C) (hm : Meth X.K C m f) (F : FnOk X.prog X.w X.K X.mg X.base CX k f fd ps sp) (hr : Room k X.A) (hb : Binds X.K fd ps ds) (hd : Vals dvs ds) (hx : Passes CX X E)
    (ht : eval (.Call (.Attribute o m apos) [] [] pos) X.env = (do
      let ov ← eval o X.env
      standAt apos.atName
      let (f, first) ← holding [ov] (getMethod ov m pl)
      callWith pos f first (backTo pos (starEach [] X.env)) (backToKw pos (keywordEach [] X.env))) := by rfl) :
    PE X (.Call (.Attribute o m apos) [] [] pos) (tMeth C m sp dvs E ta tNil) := by
  intro pins s σ H Q I h
  refine PySem.W.methodCall_KW (pl := pl) (thn (he pins s σ H _ I h) fun u s1 ⟨x, H1, I1, rx, a, dx, fs, ex, ea, l, q⟩ => ?_) ht
  subst ex
  obtain rfl : u = Value.ref a := rx
  refine getmeth_ok I1 ea c hm l ?_
  exact PySem.W.callWith_K0 (first := [.ref a]) I1.kIn hm.kp (run_fn (us := [.ref a]) (vs := [.ref a]) F hr hb hd hx I1 (.cons rfl .nil) q)

/-- what a class must have to be made -/
structure Mk (K : PySem.W.Frag) (C f : Addr) : Prop where
  makes : PySem.W.makesIn K C = true
  init : PySem.W.findIn K (.ref C) "__init__" = some (some (.ref f))
  fn : PySem.W.isFn K (.ref f) = true
  kp : PySem.W.keepIn K (.ref C) = true

theorem run_make {pins : List (Addr × Obj)} {σ : St} {H : Hp} {s : Shared} {Q : VK} {us : List Value} {vs : List V} (M : Mk X.K C f) (F : FnOk X.prog X.w X.K X.mg X.base CX k f fd ps sp) (hr : Room (k + 1) X.A) (hb : Binds X.K fd ps ds) (hd : Vals dvs ds)
    (hx : Passes CX X E) (I : Inv X pins σ H s) (r : Vals vs us)
    (h : ∀ x dx, H x = none → H dx = none → dx ≠ x → sp (.ref x :: (vs ++ dvs)) (upd (upd H dx (.own x)) x (.ins C dx [])) (fun v H2 => v = .non ∧ Q (.ref x) H2) E) :
    wpAny (model X.prog X.w) X.A (call (.ref C) us) (EP X pins σ Q) X.xe s := by
  have hq := h (s.heap.objs.size + 1) s.heap.objs.size (I.hok.fresh (Nat.le_succ _)) (I.hok.fresh (Nat.le_refl _)) (Nat.ne_of_lt (Nat.lt_succ_self _))
  have I2 := Inv.made (C := C) I
  have r2 : Vals (V.ref (s.heap.objs.size + 1) :: (vs ++ dvs)) (Value.ref (s.heap.objs.size + 1) :: (us ++ ds)) := .cons rfl (r.append hd)
  have hl : (Value.ref (s.heap.objs.size + 1) :: us ++ ds).length = ps.length := by
    have e := r2.length
    rw [F.len _ _ _ _ hq] at e
    exact e.symm
  refine wpAny_call (make_map (f := f) I.kIn M.makes M.init (beq_iff_eq.mp M.fn) (codeAny_mono (F.run _ X.stack _ _ ⟨Value.ref (s.heap.objs.size + 1) :: us, []⟩ (Value.ref (s.heap.objs.size + 1) :: (us ++ ds)) _ _ E (hr.make C us [])
    (I2.env0.make C us []) (hb _ (Value.ref (s.heap.objs.size + 1) :: us) I2.kIn hl) r2 hq) fun r s' hq' => ?_))
  cases r with
  | error e => exact hx pins σ _ _ e s' I2 hq'
  | ok fl =>
    cases fl with
    | ret u =>
      obtain ⟨v, H', I3, rv, ev, q3⟩ := I2.after hq'
      subst ev
      exact ⟨rv, ⟨V.ref (s.heap.objs.size + 1), H', I3, rfl, q3⟩⟩
    | next => exact False.elim hq'
    | brk => exact False.elim hq'
    | cont => exact False.elim hq'
theorem pe_make (M : Mk X.K C f) (F : FnOk X.prog X.w X.K X.mg X.base CX k f fd ps sp) (hr : Room (k + 1) X.A) (hg : Gl X x) (hm : X.mg x = some (.ref C)) (hb : Binds X.K fd ps ds) (hd : Vals dvs ds) (hx : Passes CX X E)
    (ha : PA X (e :: es) t) (hdb : (x == ("__debug__" : Str)) = false := by decide) (he : starEach (e :: es) X.env = (false, eval e X.env) :: starEach es X.env := by rfl) (hpl : (backTo pos (starEach es X.env)).any (·.1) = false := by rfl) :
    PE X (.Call (.Name x p) (e :: es) [] pos) (tMake C sp dvs E t) := by
  intro pins s σ H Q I h
  refine wpAny_Call_Name_kw (ld_glob I hg hm ?_ hdb)
  refine PySem.W.callWith_K (h₀ := X.base) I.ok.mod.kin M.kp (thn (ha pos pins s σ H _ I h) fun us s1 ⟨vs, H1, I1, r, q⟩ => ⟨I1.kIn, ?_⟩) he hpl
  exact run_make M F hr hb hd hx I1 r q
theorem pe_make0 (M : Mk X.K C f) (F : FnOk X.prog X.w X.K X.mg X.base CX k f fd ps sp) (hr : Room (k + 1) X.A) (hg : Gl X x) (hm : X.mg x = some (.ref C)) (hb : Binds X.K fd ps ds) (hd : Vals dvs ds) (hx : Passes CX X E)
    (hdb : (x == ("__debug__" : Str)) = false := by decide) : PE X (.Call (.Name x p) [] [] pos) (tMake C sp dvs E tNil) := by
  intro pins s σ H Q I h
  refine wpAny_Call_Name_kw (ld_glob I hg hm ?_ hdb)
  exact PySem.W.callWith_K0 I.kIn M.kp (run_make (us := []) M F hr hb hd hx I .nil h)
end

/-! ### keywords -/
/-- the values of the keywords, from the left -/
def PK (X : Cx) (kws : List Keyword) (t : TA) : Prop :=
  ∀ (pos : Pos) (pins : List (Addr × Obj)) (s : Shared) (σ : St) (H : Hp) (Q : List V → Hp → Prop), Inv X pins σ H s → t σ H Q → wpAny (model X.prog X.w) X.A (evalAll ((backToKw pos (keywordEach kws X.env)).map (·.2))) (AP X pins σ Q) X.xe s
section
variable {X : Cx} {CX : CXT} {k : Nat} {f C : Addr} {fd : FuncData} {ps ks : List Str} {sp : Sp} {E : XK} {x m : Str} {p pos apos kpos : Pos} {e o : Expr} {es : List Expr} {kws : List Keyword} {te ta : TE} {t tk : TA} {nm : Option Str}
theorem pk_nil : PK X [] tNil := fun _ _ _ _ H Q I h => wpAny_evalAll_nil ⟨[], H, I, .nil, h⟩
theorem pk_cons (ha : PE X e te) (hr : PK X kws t) : PK X (⟨nm, e, kpos⟩ :: kws) (tCons te t) := by
  intro pos pins s σ H Q I h
  show wpAny _ _ (evalAll ((do let v ← eval e X.env; standAt pos; pure v) :: (backToKw pos (keywordEach kws X.env)).map (·.2))) _ _ s
  refine wpAny_evalAll_cons (wpAny_bind (thn (ha pins s σ H _ I h) fun u s1 ⟨x, H1, I1, r1, q1⟩ => wpAny_bind (wpAny_standAt (wpAny_pure ?_))))
  exact thn (hr pos pins s1 σ H1 _ I1 q1) fun us s2 ⟨xs, H2, I2, r2, q2⟩ => ⟨x :: xs, H2, I2, .cons r1 r2, q2⟩

/-- how a call with keywords binds: g puts the positional values us and the keywords' values ws (names ks) in the parameters' order, defaults among them -/
structure KBinds (K : PySem.W.Frag) (fd : FuncData) (ps ks : List Str) (g : List Value → List Value → List Value) (gV : List V → List V → List V) : Prop where
  to : ∀ (s : Shared) (us ws : List Value), K.In s.heap → (g us ws).length = ps.length → BindsTo s fd ⟨us, ks.zip ws⟩ (ps.zip (g us ws))
  rel : ∀ {vs : List V} {us : List Value} {zs : List V} {ws : List Value}, Vals vs us → Vals zs ws → Vals (gV vs zs) (g us ws)
def tCallK (sp : Sp) (gV : List V → List V → List V) (E : XK) (t tk : TA) : TE := fun σ H Q => t σ H fun vs H1 => tk σ H1 fun zs H2 => sp (gV vs zs) H2 Q E
variable {g : List Value → List Value → List Value} {gV : List V → List V → List V}
theorem run_fnk {pins : List (Addr × Obj)} {σ : St} {H : Hp} {s : Shared} {Q : VK} {us ws : List Value} {vs zs : List V} (F : FnOk X.prog X.w X.K X.mg X.base CX k f fd ps sp) (hr : Room k X.A) (hb : KBinds X.K fd ps ks g gV) (hx : Passes CX X E)
    (I : Inv X pins σ H s) (r : Vals vs us) (rz : Vals zs ws) (h : sp (gV vs zs) H Q E) : wpAny (model X.prog X.w) X.A (call (.ref f) us (ks.zip ws)) (EP X pins σ Q) X.xe s := by
  have r2 := hb.rel r rz
  have hl : (g us ws).length = ps.length := by rw [← r2.length]; exact F.len _ _ _ _ h
  refine wpAny_call (codeAny_mono (F.run X.A X.stack s H ⟨us, ks.zip ws⟩ (g us ws) (gV vs zs) Q E hr I.env0 (hb.to s us ws I.kIn hl) r2 h) fun r s' hq => ?_)
  cases r with
  | error e => exact hx pins σ H s e s' I hq
  | ok fl =>
    cases fl with
    | ret u => exact I.after hq
    | next => exact False.elim hq
    | brk => exact False.elim hq
    | cont => exact False.elim hq
/-- f(e, .., k = v, ..) -/
theorem pe_callK (F : FnOk X.prog X.w X.K X.mg X.base CX k f fd ps sp) (hr : Room k X.A) (hg : Gl X x) (hm : X.mg x = some (.ref f)) (hk : PySem.W.keepIn X.K (.ref f) = true) (hb : KBinds X.K fd ps ks g gV) (hx : Passes CX X E)
    (ha : PA X (e :: es) t) (hkw : PK X kws tk) (hall : (backToKw pos (keywordEach kws X.env)).all (·.1.isSome) = true := by rfl) (hks : (backToKw pos (keywordEach kws X.env)).filterMap (·.1) = ks := by rfl)
    (hdb : (x == ("__debug__" : Str)) = false := by decide) (he : starEach (e :: es) X.env = (false, eval e X.env) :: starEach es X.env := by rfl)
    (hpl : ((backTo pos (starEach (e :: es) X.env)).any (·.1) || (backToKw pos (keywordEach kws X.env)).any (·.1.isNone)) = false := by rfl) :
    PE X (.Call (.Name x p) (e :: es) kws pos) (tCallK sp gV E t tk) := by
  intro pins s σ H Q I h
  refine wpAny_Call_Name_kw (ld_glob I hg hm ?_ hdb)
  refine PySem.W.callWith_KW (h₀ := X.base) I.ok.mod.kin hk hall (thn (ha pos pins s σ H _ I h) fun us s1 ⟨vs, H1, I1, r, q⟩ => ?_) hpl he
  refine thn (hkw pos pins s1 σ H1 _ I1 q) fun ws s2 ⟨zs, H2, I2, rz, q2⟩ => ⟨I2.kIn, ?_⟩
  rw [hks]
  exact run_fnk F hr hb hx I2 r rz q2
end

/-! ### a def's body keeps its promise -/
/-- names: the parameters first -/
structure FnScope (N P : List Str) (sc : Scope) : Prop where
  kind : sc.kind = .function
  co : sc.isCoroutine = false
  gen : sc.isGenerator = false
  nd : N.Nodup
  pre : N.take P.length = P
  par : ∀ x ∈ P, sc.names.lookup x = some .local ∨ sc.names.lookup x = some .cell
  nofree : ∀ y ∈ sc.names, y.2 ≠ .free

theorem bindL_out {kindOf : Str → Option NameKind} {x : Str} : ∀ {binds : List (Str × Value)} {m : Str → Option Value}, (∀ v, (x, v) ∉ binds) → bindL kindOf binds m x = m x
  | [], _, _ => rfl
  | (n, v) :: r, m, h => by
    unfold bindL
    rw [bindL_out fun w hw => h w (List.mem_cons_of_mem _ hw)]
    split
    · have : x ≠ n := by rintro rfl; exact h v List.mem_cons_self
      simp [this]
    · rfl
theorem bindC_out {kindOf : Str → Option NameKind} {x : Str} : ∀ {binds : List (Str × Value)} {m : Str → Option Value}, (∀ v, (x, v) ∉ binds) → bindC kindOf binds m x = m x
  | [], _, _ => rfl
  | (n, v) :: r, m, h => by
    unfold bindC
    rw [bindC_out fun w hw => h w (List.mem_cons_of_mem _ hw)]
    split
    · rfl
    · have : x ≠ n := by rintro rfl; exact h v List.mem_cons_self
      simp [this]
theorem bindL_get {kindOf : Str → Option NameKind} {x : Str} {v : Value} : ∀ {P : List Str} {vs : List Value} {i : Nat} {m : Str → Option Value}, P.Nodup → P[i]? = some x → vs[i]? = some v → kindOf x = some .local →
    bindL kindOf (P.zip vs) m x = some v
  | [], _, _, _, _, h, _, _ => by simp at h
  | _ :: _, [], _, _, _, _, h, _ => by simp at h
  | p :: P, w :: vs, 0, m, nd, h1, h2, hk => by
    simp at h1 h2; subst h1; subst h2
    show bindL kindOf ((p, w) :: P.zip vs) m p = _
    unfold bindL
    rw [bindL_out fun v hv => (List.nodup_cons.mp nd).1 (List.of_mem_zip hv).1, if_pos hk]
    simp
  | p :: P, w :: vs, i + 1, m, nd, h1, h2, hk => by
    show bindL kindOf ((p, w) :: P.zip vs) m x = _
    unfold bindL
    exact bindL_get (i := i) (List.nodup_cons.mp nd).2 (by simpa using h1) (by simpa using h2) hk
theorem bindC_get {kindOf : Str → Option NameKind} {x : Str} {v : Value} : ∀ {P : List Str} {vs : List Value} {i : Nat} {m : Str → Option Value}, P.Nodup → P[i]? = some x → vs[i]? = some v → kindOf x ≠ some .local →
    bindC kindOf (P.zip vs) m x = some v
  | [], _, _, _, _, h, _, _ => by simp at h
  | _ :: _, [], _, _, _, _, h, _ => by simp at h
  | p :: P, w :: vs, 0, m, nd, h1, h2, hk => by
    simp at h1 h2; subst h1; subst h2
    show bindC kindOf ((p, w) :: P.zip vs) m p = _
    unfold bindC
    rw [bindC_out fun v hv => (List.nodup_cons.mp nd).1 (List.of_mem_zip hv).1, if_neg hk]
    simp
  | p :: P, w :: vs, i + 1, m, nd, h1, h2, hk => by
    show bindC kindOf ((p, w) :: P.zip vs) m x = _
    unfold bindC
    exact bindC_get (i := i) (List.nodup_cons.mp nd).2 (by simpa using h1) (by simpa using h2) hk

/-- the names' values at the entry -/
def start (N : List Str) (vs : List V) : St := vs.map some ++ List.replicate (N.length - vs.length) none

/-- the context of a def's body, at its entry; an exception leaves the frame, then lies as CX says -/
def cxOf (CX : CXT) (P : Program) (w : World) (K : PySem.W.Frag) (mg : Str → Option Value) (base : Heap) (N : List Str) (qual : Str) (scope : Scope) (f : Addr) (cd : Value) (A : Around) (outer : List Env) (s : Shared) (H : Hp) (E : XK) : Cx where
  prog := P
  w := w
  K := K
  mg := mg
  base := base
  A := A.deeper (envOfC qual scope s.heap.objs.size f cd)
  N := N
  s₀ := s
  H₀ := H
  env := envOfC qual scope s.heap.objs.size f cd
  outer := outer
  stack := envOfC qual scope s.heap.objs.size f cd :: outer
  ex := []
  calm := true
  fn := fun _ => true
  pn := []
  xe := fun e s' => wpAny (model P w) (A.deeper (envOfC qual scope s.heap.objs.size f cd)) (leaving (envOfC qual scope s.heap.objs.size f cd) e) (fun _ s'' => CX outer H s E e s'') (fun e' s'' => CX outer H s E e' s'') s'

theorem cell_has {sc : Scope} {n : Nat} {x : Str} (h : sc.names.lookup x = some .cell) : ∃ c, (cellsFrom n sc.names []).lookup x = some c := by
  have q := PySem.W.cellsFrom_some sc.names n [] (.inl h)
  exact Option.isSome_iff_exists.mp q

theorem inv_start {CX : CXT} {P : Program} {w : World} {K : PySem.W.Frag} {mg : Str → Option Value} {base : Heap} {N ps : List Str} {qual : Str} {scope : Scope} {f : Addr} {cd : Value} {A : Around} {outer : List Env} {s s1 : Shared} {H : Hp} {E : XK} {us : List Value} {vs : List V}
    (S : FnScope N ps scope) (hd : A.handled = none) (e0 : Env0 P w K mg base A outer s H) (hl : vs.length = ps.length) (r : Vals vs us)
    (x : InCallC s s.heap.objs.size (bindL (envOfC qual scope s.heap.objs.size f cd).kindOf (ps.zip us) fun _ => none) (cellsFrom (s.heap.objs.size + 1) scope.names []) (bindC (envOfC qual scope s.heap.objs.size f cd).kindOf (ps.zip us) fun _ => none) s1) :
    Inv (cxOf CX P w K mg base N qual scope f cd A outer s H E) [] (start N vs) H s1 := by
  have hpl : ps.length ≤ N.length := by have := congrArg List.length S.pre; rw [List.length_take] at this; omega
  obtain ⟨h1, tk, rfl, hk⟩ := x.done
  have noA : ∀ b : Addr, b ∉ (cxOf CX P w K mg base N qual scope f cd A outer s H E).ex := fun b z => absurd (show b ∈ ([] : List Addr) from z) (by simp)
  refine ⟨⟨e0.mod, S.kind, rfl, rfl, Nat.le_refl _, fun y z c h1 h2 => ?_, fun y hy => ?_, fun y c _ h => ?_, fun _ => hd, Around.frames_deeper e0.frames, .inr ⟨rfl, rfl⟩, fun b z => absurd z (noA b), e0.bs, e0.bsz, fun b _ _ => noA b, fun b z => absurd z (noA b), e0.funs, e0.frf⟩,
    rfl, e0.bare, Un.kept hk, ⟨_, x.toInCall.ns, fun i y v h1 h2 h3 => ?_⟩, fun y c h => ⟨_, x.cell y c h⟩, e0.hok.fresh (Nat.le_refl _), fun y c h => ?_, fun p hp => absurd (show p ∈ ([] : List (Addr × Obj)) from hp) (by simp), e0.hok.kept hk, ?_⟩
  · exact name_of_addr x.apart (PySem.mem_of_lookup h1) (PySem.mem_of_lookup h2)
  · have hy : scope.names.lookup y = some .cell ∨ scope.names.lookup y = some .free := hy
    rcases hy with hy | hy
    · exact cell_has hy
    · exact absurd rfl (S.nofree _ (PySem.mem_of_lookup hy))
  · exact Nat.le_of_lt (x.above y c (PySem.mem_of_lookup h))
  · have hi : i < vs.length := by
      unfold start at h2
      by_cases hi : i < vs.length
      · exact hi
      · rw [List.getElem?_append_right (by simpa using hi)] at h2
        rw [List.getElem?_replicate] at h2
        split at h2 <;> cases h2
    have ha : vs[i]? = some v := by
      unfold start at h2
      rw [List.getElem?_append_left (by simpa using hi), List.getElem?_map] at h2
      cases e : vs[i]? with
      | none => rw [e] at h2; cases h2
      | some a => rw [e] at h2; cases h2; rfl
    obtain ⟨u, hu, rv⟩ := r.get ha
    have hp : ps[i]? = some y := by
      rw [← S.pre, List.getElem?_take_of_lt (by omega)]; exact h1
    have ndP : ps.Nodup := by rw [← S.pre]; exact S.nd.sublist (List.take_sublist _ _)
    refine ⟨u, rv, ?_⟩
    rcases S.par y (List.mem_of_getElem? hp) with k | k
    · exact .inl ⟨k, bindL_get ndP hp hu k⟩
    · obtain ⟨c, e⟩ := cell_has (n := s.heap.objs.size + 1) k
      refine .inr ⟨.inl k, c, e, ?_⟩
      have q := x.cell y c e
      rw [bindC_get ndP hp hu (by show scope.names.lookup y ≠ _; rw [k]; decide)] at q
      exact q
  · exact e0.hok.fresh (Nat.le_of_lt (x.above y c (PySem.mem_of_lookup h)))
  · unfold start
    show _ = N.length
    rw [List.length_append, List.length_map, List.length_replicate]
    omega

/-- THE RULE: a def (or a method) of the text, by its body. The body's reading t is chosen for each entry; it is run at the parameters' values -/
theorem fn_of {CX : CXT} {P : Program} {w : World} {K : PySem.W.Frag} {mg : Str → Option Value} {base : Heap} {k : Nat} {f : Addr} {name qual : Str} {params : Arguments} {body : List Stmt} {scope : Scope} {dV kV doc pm cdv ct oc : Value} {an od : Option Addr}
    {osl : Array (Option Value)} {N ps : List Str} {sp : Sp} (lk : K.lookup f = some ⟨oc, od, .func (PySem.W.fnOf name qual params body scope dV kV doc pm an cdv ct), osl⟩) (hcd : PySem.W.codeIn K cdv qual = true) (S : FnScope N ps scope)
    (len : ∀ vs H Q E, sp vs H Q E → vs.length = ps.length)
    (hbody : ∀ (A : Around) (outer : List Env) (s : Shared) (H : Hp) (vs : List V) (Q : VK) (E : XK), Room k (A.deeper (envOfC qual scope s.heap.objs.size f cdv)) → sp vs H Q E →
      ∃ t, PSs (cxOf CX P w K mg base N qual scope f cdv A outer s H E) body t ∧ t { nx := fun _ H' => Q .non H', rt := Q } (start N vs) H) :
    FnOk P w K mg base CX (k + 1) f (PySem.W.fnOf name qual params body scope dV kV doc pm an cdv ct) ps sp := by
  refine ⟨len, fun A outer s H args us vs Q E hr e0 hb r hsp => ?_⟩
  have hl := len _ _ _ _ hsp
  have KX : K.In s.heap := e0.mod.kin.keeps fun b o e => (e0.bs b o e).1
  have lim : s.heap.NoLimit := e0.mod.nolimit.keeps fun b o e => (e0.bs b o e).1
  have hkind : ∀ y ∈ ps.zip us, scope.names.lookup y.1 = some .local ∨ (scope.names.lookup y.1 = some .cell ∧ ((cellsFrom (s.heap.objs.size + 1) scope.names []).lookup y.1).isSome = true) := fun ⟨n, v⟩ hy => by
    rcases S.par n (List.of_mem_zip hy).1 with q | q
    · exact .inl q
    · exact .inr ⟨q, PySem.W.cellsFrom_some _ _ _ (.inl q)⟩
  refine codeAny_call_function hr.depth (KX _ _ lk) rfl S.co S.gen rfl (PySem.W.codeRec_of KX hcd) (hb _ _ _ _ ?_)
  refine wpAny_newFunctionEnv_cells S.kind hkind fun env he s1 x => ?_
  subst he
  refine ⟨lim.keeps x.toInCall.keep, codeAny_func ?_⟩
  obtain ⟨t, ht, hq⟩ := hbody A outer s H vs Q E (hr.deeper _) hsp
  have I : Inv (cxOf CX P w K mg base N qual scope f cdv A outer s H E) [] (start N vs) H s1 := inv_start S hr.hd e0 hl r x
  refine wpAny_mono (ht [] s1 (start N vs) H _ I hq) (fun fl s' hs => ?_) fun e s' hs => hs
  have fin : ∀ {σ' : St} {H' : Hp} {v : V} {u : Value}, Inv (cxOf CX P w K mg base N qual scope f cdv A outer s H E) [] σ' H' s' → RelV v u → Q v H' → CE outer P w H s Q u s' :=
    fun {σ' H' v u} J rv q => ⟨v, H', J.os, J.bare, J.base, J.hok, rv, q⟩
  cases fl with
  | ret u =>
    obtain ⟨v, σ', H', J, rv, q⟩ := hs
    exact fin J rv q
  | next =>
    obtain ⟨σ', H', J, q⟩ := hs
    exact fin (v := V.non) (u := Value.none) J rfl q
  | brk =>
    obtain ⟨_, _, _, q⟩ := hs
    exact False.elim q
  | cont =>
    obtain ⟨_, _, _, q⟩ := hs
    exact False.elim q
end L2

namespace L2
open PySem PySem.Spec PyProof.Rows
section
variable {X : Cx} {x : Str} {p pos : Pos} {e : Expr} {es : List Expr} {t : TA} {id T : String} {r : List V → Hp → VK → Prop}

def tCB (r : List V → Hp → VK → Prop) (t : TA) : TE := fun σ H Q => t σ H fun vs H1 => r vs H1 Q
/-- f(e, ..), f a built-in function -/
theorem pe_callB (hc : CallR X (.builtin id) r) (hg : Gl X x) (hm : X.mg x = none) (hv : bootBuiltins x = some (.builtin id)) (ha : PA X (e :: es) t) (hn : x ≠ "__name__" := by decide) (hdb : (x == ("__debug__" : Str)) = false := by decide)
    (he : starEach (e :: es) X.env = (false, eval e X.env) :: starEach es X.env := by rfl) (hpl : (backTo pos (starEach es X.env)).any (·.1) = false := by rfl) : PE X (.Call (.Name x p) (e :: es) [] pos) (tCB r t) := by
  intro pins s σ H Q I h
  refine wpAny_Call_Name_kw (ld_blt I hg hm hv ?_ hn hdb)
  exact PyProof.Rows.callWith_builtin1 (thn (ha pos pins s σ H _ I h) fun us s1 ⟨vs, H1, I1, r1, q1⟩ => hc pins s1 σ H1 vs us Q I1 r1 q1) he hpl
/-- T(e, ..), T a built-in type -/
theorem pe_callTy (hc : CallR X (.type T) r) (hg : Gl X x) (hm : X.mg x = none) (hv : bootBuiltins x = some (.type T)) (ha : PA X (e :: es) t) (hn : x ≠ "__name__" := by decide) (hdb : (x == ("__debug__" : Str)) = false := by decide)
    (he : starEach (e :: es) X.env = (false, eval e X.env) :: starEach es X.env := by rfl) (hpl : (backTo pos (starEach es X.env)).any (·.1) = false := by rfl) : PE X (.Call (.Name x p) (e :: es) [] pos) (tCB r t) := by
  intro pins s σ H Q I h
  refine wpAny_Call_Name_kw (ld_blt I hg hm hv ?_ hn hdb)
  exact PyProof.Rows.callWith_type1 (thn (ha pos pins s σ H _ I h) fun us s1 ⟨vs, H1, I1, r1, q1⟩ => hc pins s1 σ H1 vs us Q I1 r1 q1) he hpl
/-- T() -/
theorem pe_callTy0 (hc : CallR X (.type T) r) (hg : Gl X x) (hm : X.mg x = none) (hv : bootBuiltins x = some (.type T)) (hn : x ≠ "__name__" := by decide) (hdb : (x == ("__debug__" : Str)) = false := by decide) :
    PE X (.Call (.Name x p) [] [] pos) (tCB r tNil) := by
  intro pins s σ H Q I h
  refine wpAny_Call_Name_kw (ld_blt I hg hm hv ?_ hn hdb)
  exact PyProof.Rows.callWith_type0 (hc pins s σ H [] [] Q I .nil h)
end
end L2

namespace HT
open PySem PyProof.Rows

/-- t < u of tuples of ints -/
def lexLt : List Int → List Int → Bool
  | [], [] => false
  | [], _ :: _ => true
  | _ :: _, [] => false
  | x :: xs, y :: ys => if x = y then lexLt xs ys else decide (x < y)
theorem lexLt_cons (x y : Int) (xs ys : List Int) : lexLt (x :: xs) (y :: ys) = if x = y then lexLt xs ys else decide (x < y) := rfl
theorem lexLt_nil_nil : lexLt [] [] = false := rfl
theorem lexLt_nil_cons (y : Int) (ys : List Int) : lexLt [] (y :: ys) = true := rfl
theorem lexLt_cons_nil (x : Int) (xs : List Int) : lexLt (x :: xs) [] = false := rfl

theorem eqAt_int (A : Around) (s : Shared) (a : Int) (t : Tok) (c : Int) (u : Tok) : ∃ e, SeqAt.EqAt A s (.int a t) (.int c u) e ∧ (e = true ↔ a = c) :=
  ⟨(a == c), SeqAt.EqAt.int_int a t c u, by simp⟩
theorem rcLt_int (A : Around) (s : Shared) (a : Int) (t : Tok) (c : Int) (u : Tok) (prog : Program) (w : World) (E : Value → Shared → Prop) (Q : Value → Shared → Prop) (h : Q (.bool (decide (a < c))) s) :
    wpAny (model prog w) A (richCompare .Lt (.int a t) (.int c u)) Q E s :=
  (PyProof.Rows.lt_int h : wpAny (model prog w) A (compareOp .Lt (.int a t) (.int c u)) Q E s)

section
open PySem.SeqAt
open PySem.AutoSeq1 (wpAny_loadPart')
open PySem.MeetsSeq PySem.MeetsSeq2 PySem.MeetsSeq3

theorem tuple_lt_ints (l b : Addr) (items items2 : Array Value) (n n2 : Nat) (dd dd2 : Option Addr) (sl sl2 : Array (Option Value)) (ns ms : List Int) (hi : IntsAre items.toList ns) (hj : IntsAre items2.toList ms) :
    Meets (Builtin.«tuple.__lt__» ⟨[.ref l, .ref b], []⟩)
      (fun _ R s => s.heap.get? l = some { cls := .type "tuple", dict := dd, data := .seq items n, slots := sl } ∧ s.heap.get? b = some { cls := .type "tuple", dict := dd2, data := .seq items2 n2, slots := sl2 } ∧
        R (.ok (.ret (.bool (lexLt ns ms)))) s) :=
  .of_wp fun prog w A R s h => by
    obtain ⟨hp, g, d, tk, os⟩ := s; obtain ⟨hl, hb, h⟩ := h
    have f2 := AutoSeq1.sub_tuple_tuple
    have z1 : items.size = ns.length := by rw [← hi.length]; simp
    have z2 : items2.size = ms.length := by rw [← hj.length]; simp
    wp_walk using wpAny_loadPart' hl, wpAny_loadPart' hb, wpAny_forIn_list _ (fun rest b s' => b.1 = none ∧ s' = ⟨hp, g, d, tk, os⟩ ∧ ∃ (vs ws : List Value) (ns' ms' : List Int), rest = vs.zip ws ∧
      IntsAre vs ns' ∧ IntsAre ws ms' ∧ ns'.length + items2.size = ms'.length + items.size ∧ R (.ok (.ret (.bool (lexLt ns' ms')))) ⟨hp, g, d, tk, os⟩) _
    case turn =>
      rintro ⟨y, x⟩ rest b s' ⟨hb', rfl, vs, ws, ns', ms', hz, hvi, hwi, hlen, hR⟩
      cases hvi with
      | nil => rw [List.zip_nil_left] at hz; cases hz
      | cons a t hvi' =>
        cases hwi with
        | nil => rw [List.zip_nil_right] at hz; cases hz
        | cons c u hwi' =>
          rw [List.zip_cons_cons] at hz
          injection hz with hyx hrest
          injection hyx with hy hx
          subst hy hx
          rw [lexLt_cons] at hR
          simp only [List.length_cons] at hlen
          obtain ⟨e, he, hiff⟩ := eqAt_int A.in1 ⟨hp, g, d, tk, os⟩ a t c u
          refine wpAny_bind (he prog w _ _ ?_)
          cases e with
          | true =>
            rw [if_pos (hiff.mp rfl)] at hR
            wp_walk
            exact ⟨rfl, rfl, _, _, _, _, hrest, hvi', hwi', by omega, hR⟩
          | false =>
            rw [if_neg (fun q => absurd (hiff.mpr q) Bool.false_ne_true)] at hR
            have hri := rcLt_int A.in1 ⟨hp, g, d, tk, os⟩ a t c u prog w
            wp_walk using hri
            exact ⟨_, rfl, by simpa using hR⟩
    case fin =>
      rintro ⟨b1, b2⟩ s' ⟨hb', rfl, vs, ws, ns', ms', hz, hvi, hwi, hlen, hR⟩
      simp only at hb'
      subst hb'
      have hv : lexLt ns' ms' = decide (items.size < items2.size) := by
        cases hvi with
        | nil =>
          cases hwi with
          | nil =>
            simp only [List.length_nil] at hlen
            rw [lexLt_nil_nil]
            exact (decide_eq_false (by omega)).symm
          | cons c u hw =>
            simp only [List.length_nil, List.length_cons] at hlen
            rw [lexLt_nil_cons]
            exact (decide_eq_true (by omega)).symm
        | cons a t hv =>
          cases hwi with
          | nil =>
            simp only [List.length_nil, List.length_cons] at hlen
            rw [lexLt_cons_nil]
            exact (decide_eq_false (by omega)).symm
          | cons c u hw =>
            rw [List.zip_cons_cons] at hz
            cases hz
      rw [hv] at hR
      wp_walk
      exact ⟨_, rfl, by simpa [Builtin.Tuple.tupleCompareSizes] using hR⟩
    case h =>
      exact ⟨rfl, rfl, items.toList, items2.toList, ns, ms, rfl, hi, hj, by omega, h⟩
end

section
variable {prog : Program} {w : World} {A : Around} {E : Value → Shared → Prop} {s : Shared}

theorem lt_tupInts {l b : Addr} {items items2 : Array Value} {ns ms : List Int} {Q : Value → Shared → Prop} (hl : IsTup s.heap l items) (hb : IsTup s.heap b items2) (hi : IntsAre items.toList ns) (hj : IntsAre items2.toList ms)
    (hu : A.units < cLine) (h : Q (.bool (lexLt ns ms)) s) : wpAny (model prog w) A (compareOp .Lt (.ref l) (.ref b)) Q E s := by
  obtain ⟨⟨cls, dd, data, sl⟩, ho, hc, n, hd⟩ := id hl
  obtain ⟨⟨cls2, dd2, data2, sl2⟩, ho2, hc2, n2, hd2⟩ := id hb
  simp only at hc hd hc2 hd2
  subst hc hd hc2 hd2
  exact richCompare_meets_room (op := .Lt) ⟨_, ho, rfl⟩ ⟨_, ho2, rfl⟩ PySem.F.slot_tuple_lt PySem.F.entry_tuple_lt (PySem.F.args_tuple_lt_2 _ _) (tuple_lt_ints l b items items2 n n2 dd dd2 sl sl2 ns ms hi hj)
    ⟨ho, ho2, show Value.bool (lexLt ns ms) ≠ Value.notImplemented ∧ Q (.bool (lexLt ns ms)) s from ⟨(fun x => nomatch x), h⟩⟩ hu

/-- t + u, t not empty -/
theorem cat_tup {t b : Addr} {vs ws : List Value} {Q : Value → Shared → Prop} (ht : IsTup s.heap t vs.toArray) (hb : IsTup s.heap b ws.toArray) (hv : vs ≠ [])
    (h1 : ws = [] → Q (.ref t) s) (h2 : ws ≠ [] → Q (.ref s.heap.objs.size) { s with heap := s.heap.push { cls := .type "tuple", data := .seq (vs ++ ws).toArray } })
    (hsz : vs.length + ws.length ≤ sizeLine) : wpAny (model prog w) A (binaryOp .Add (.ref t) (.ref b)) Q E s := by
  obtain ⟨⟨cls, dd, data, sl⟩, ho, hc, n, hd⟩ := id ht
  obtain ⟨⟨cls2, dd2, data2, sl2⟩, ho2, hc2, n2, hd2⟩ := id hb
  simp only at hc hd hc2 hd2
  subst hc hd hc2 hd2
  have e : vs.toArray ++ ws.toArray = (vs ++ ws).toArray := by simp
  by_cases hw : ws = []
  · exact concat_meets ⟨_, ho, rfl⟩ ⟨_, ho2, rfl⟩ noFill_tuple_add seq_tuple_add PySem.F.slot_tuple_add PySem.F.entry_tuple_add (PySem.F.args_tuple_add_2 _ _)
      (tuple_addW1 t b vs.toArray ws.toArray n n2 dd dd2 sl sl2 (by simpa using hv) (by simp [hw])) ⟨ho, ho2, h1 hw⟩
  · refine concat_meets ⟨_, ho, rfl⟩ ⟨_, ho2, rfl⟩ noFill_tuple_add seq_tuple_add PySem.F.slot_tuple_add PySem.F.entry_tuple_add (PySem.F.args_tuple_add_2 _ _)
      (tuple_addW2 t b vs.toArray ws.toArray n n2 dd dd2 sl sl2 (by simpa using hv) (by simpa using hw) (by rw [List.size_toArray, List.size_toArray]; exact hsz)) ⟨ho, ho2, ?_⟩
    rw [e]
    exact h2 hw

/-! ### t[a:b], not the whole -/
/-- a slice's bound as a place among n (d where it is left out) -/
def sIx (n d : Nat) : Option Int → Nat
  | none => d
  | some v => if v < 0 then (v + (n : Int)).toNat else min v.toNat n
theorem sIx_none (n d : Nat) : sIx n d none = d := rfl
theorem sIx_nat (n d k : Nat) : sIx n d (some (k : Int)) = min k n := by
  show (if (k : Int) < 0 then ((k : Int) + (n : Int)).toNat else min (k : Int).toNat n) = min k n
  rw [if_neg (by omega), Int.toNat_natCast]
theorem sIx_le (n d : Nat) (hd : d ≤ n) (o : Option Int) : sIx n d o ≤ n := by
  cases o with
  | none => exact hd
  | some v =>
    show (if v < 0 then (v + (n : Int)).toNat else min v.toNat n) ≤ n
    by_cases hv : v < 0
    · rw [if_pos hv]; omega
    · rw [if_neg hv]; exact Nat.min_le_right _ _
theorem clip_eq (v : Int) (n d : Nat) : (if v < 0 then max (v + (n : Int)) 0 else min v (n : Int)) = ((sIx n d (some v) : Nat) : Int) := by
  show (if v < 0 then max (v + (n : Int)) 0 else min v (n : Int)) = (((if v < 0 then (v + (n : Int)).toNat else min v.toNat n) : Nat) : Int)
  by_cases hv : v < 0
  · simp only [if_pos hv]; omega
  · simp only [if_neg hv]; omega
theorem adjust_gen (lo hi : Option Int) (n : Nat) : Builtin.Slice.sliceAdjust lo hi 1 (n : Int) = (((sIx n 0 lo : Nat) : Int), ((sIx n n hi : Nat) : Int)) := by
  have h1 : ¬ ((1 : Int) < 0) := by omega
  unfold Builtin.Slice.sliceAdjust
  simp only [h1, if_false]
  refine Prod.ext ?_ ?_
  · cases lo with
    | none => rfl
    | some v => exact clip_eq v n 0
  · cases hi with
    | none => rfl
    | some v => exact clip_eq v n n
theorem places_gen (i j : Nat) : Builtin.Slice.slicePlaces (i : Int) (j : Int) 1 = j - i := by
  unfold Builtin.Slice.slicePlaces
  have h1 : (1 : Int) > 0 := by omega
  simp only [h1, if_true, Int.ediv_one]
  split <;> omega
theorem slicePart_ {v : Value} {o : Option Int} {Q : Option Int → Shared → Prop} (p : IsPart v o) (h : Q o s) : wpAny (model prog w) A (Builtin.Slice.slicePartIndex v) Q E s := by
  cases p with
  | none => exact slicePart_none h
  | int i t => exact slicePart_int h
theorem sliceApplied_gen {sl : Addr} {vl vu : Value} {lo hi : Option Int} {n : Nat} {Q : Int × Int × Nat → Shared → Prop} (hs : s.heap.IsSliceOf sl vl vu .none) (pl : IsPart vl lo) (pu : IsPart vu hi)
    (h : Q (((sIx n 0 lo : Nat) : Int), 1, sIx n n hi - sIx n 0 lo) s) : wpAny (model prog w) A (Builtin.Slice.sliceApplied (.ref sl) (pure (n : Int))) Q E s := by
  obtain ⟨os, hos, hcs, hds⟩ := id hs
  unfold Builtin.Slice.sliceApplied Builtin.Slice.sliceFields
  refine wpAny_bind (wpAny_bind (wpAny_field hos hds (x := vl) rfl (wpAny_bind (wpAny_field hos hds (x := vu) rfl (wpAny_bind (wpAny_field hos hds (x := .none) rfl (wpAny_pure ?_)))))))
  refine wpAny_bind (slicePart_none ?_)
  show wpAny _ _ (if ((1 : Int) == 0) = true then _ else _) _ _ s
  rw [if_neg (by decide)]
  refine wpAny_bind (slicePart_ pl (wpAny_bind (slicePart_ pu (wpAny_bind (wpAny_pure ?_)))))
  show wpAny _ _ (match Builtin.Slice.sliceAdjust lo hi 1 (n : Int) with | (lo, hi) => pure (lo, (1 : Int), Builtin.Slice.slicePlaces lo hi 1)) _ _ s
  rw [adjust_gen lo hi n]
  show wpAny _ _ (pure (((sIx n 0 lo : Nat) : Int), (1 : Int), Builtin.Slice.slicePlaces ((sIx n 0 lo : Nat) : Int) ((sIx n n hi : Nat) : Int) 1)) _ _ s
  rw [places_gen]
  exact wpAny_pure h
theorem pick_gen (xs : Array Value) (i k : Nat) : ((List.range k).filterMap fun (m : Nat) => xs[((i : Int) + (m : Int) * 1).toNat]?).toArray = ((xs.toList.drop i).take k).toArray := by
  have e : (fun (m : Nat) => xs[((i : Int) + (m : Int) * 1).toNat]?) = fun m => xs[i + m]? := by
    funext m
    have : ((i : Int) + (m : Int) * 1).toNat = i + m := by omega
    rw [this]
  rw [e]
  have := pick_run xs i k
  rw [List.filterMap_map] at this
  have e2 : ((fun x => xs[x]?) ∘ fun x => i + x) = fun m => xs[i + m]? := rfl
  rw [e2] at this
  rw [this]

theorem getItem_tuple_cut {t sl : Addr} {items : Array Value} {vl vu : Value} {lo hi : Option Int} {Q : Value → Shared → Prop} (ht : IsTup s.heap t items) (hs : s.heap.IsSliceOf sl vl vu .none) (pl : IsPart vl lo) (pu : IsPart vu hi)
    (hw : ¬ (sIx items.size 0 lo = 0 ∧ sIx items.size items.size hi = items.size))
    (h : Q (.ref s.heap.objs.size) { s with heap := s.heap.push { cls := .type "tuple", data := .seq ((items.toList.drop (sIx items.size 0 lo)).take (sIx items.size items.size hi - sIx items.size 0 lo)).toArray } })
    (hsz : items.size ≤ sizeLine) : wpAny (model prog w) A (getItem (.ref t) (.ref sl)) Q E s := by
  have htake : sizeOk (.seq ((items.toList.drop (sIx items.size 0 lo)).take (sIx items.size items.size hi - sIx items.size 0 lo)).toArray) := by
    show ((items.toList.drop (sIx items.size 0 lo)).take (sIx items.size items.size hi - sIx items.size 0 lo)).toArray.size ≤ sizeLine
    rw [List.size_toArray, List.length_take, List.length_drop, Array.length_toList]
    omega
  have hj : sIx items.size items.size hi ≤ items.size := sIx_le _ _ (Nat.le_refl _) hi
  obtain ⟨os, hos, hcs, hds⟩ := id hs
  have hTs : s.TypeIs (.ref sl) "slice" := ⟨os, hos, hcs⟩
  unfold getItem
  try with_reducible refine wpAny_holding ?_
  first | refine wpAny_bind (wpAny_pure ?_) | skip
  refine wpAny_bind (wpAny_sequenceKey ht.typeIs (by decide) ?_)
  refine wpAny_bind (wpAny_callSpecial?_slot (name := Str.ofString "__getitem__") ht.typeIs PyProof.Rows.slot_tuple_getitem
    (wpAny_call_entry PyProof.Rows.slot_tuple_getitem ht.typeIs entry_tuple_getitem ?_ (args_tuple_getitem _ _)))
  show wpAny _ _ (Builtin.Tuple.tupleItemsOf (.ref t) >>= _) _ _ s
  refine wpAny_bind (tupleItemsOf_ ht ?_)
  refine wpAny_bind (wpAny_typeOf hTs ?_)
  rw [if_pos (by decide)]
  refine wpAny_bind (sliceApplied_gen hs pl pu ?_)
  have hno : ¬ ((((sIx items.size 0 lo : Nat) : Int) == 0 && (1 : Int) == 1 && (sIx items.size items.size hi - sIx items.size 0 lo) == items.size) = true) := by
    intro q
    rw [Bool.and_eq_true, Bool.and_eq_true] at q
    have q1 : ((sIx items.size 0 lo : Nat) : Int) = 0 := eq_of_beq q.1.1
    have q2 : sIx items.size items.size hi - sIx items.size 0 lo = items.size := eq_of_beq q.2
    exact hw ⟨by omega, by omega⟩
  show wpAny _ _ (if (((sIx items.size 0 lo : Nat) : Int) == 0 && (1 : Int) == 1 && (sIx items.size items.size hi - sIx items.size 0 lo) == items.size) = true then _ else _) _ _ s
  rw [if_neg hno, pick_gen]
  first
    | exact wpAny_bind (m := Builtin.Tuple.tupleExact _) (wpAny_newObj_type (wpAny_pure ⟨_, rfl, wpAny_pure h⟩) htake)
    | exact wpAny_bind (m := Builtin.Tuple.tupleExact _) (wpAny_newObj_type (wpAny_bind (wpAny_pure (wpAny_pure ⟨_, rfl, wpAny_pure h⟩))) htake)
    | exact wpAny_bind (wpAny_bind (m := Builtin.Tuple.tupleExact _) (wpAny_newObj_type (wpAny_pure (wpAny_pure ⟨_, rfl, wpAny_pure h⟩)) htake))
    | exact wpAny_bind (wpAny_bind (m := Builtin.Tuple.tupleExact _) (wpAny_newObj_type (wpAny_pure ⟨_, rfl, wpAny_pure h⟩) htake))
end
end HT

namespace L2
open PySem PySem.Spec PyProof.Rows

/-! ### the parts of a slice -/
abbrev TO := St → Hp → (Option Int → Hp → Prop) → Prop
/-- a slice's part (left out, or an int) -/
def PO (X : Cx) (e : Option Expr) (t : TO) : Prop :=
  ∀ (pins : List (Addr × Obj)) (s : Shared) (σ : St) (H : Hp) (Q : Option Int → Hp → Prop), Inv X pins σ H s → t σ H Q →
    wpAny (model X.prog X.w) X.A (evalPart e X.env) (fun u s' => ∃ o H', Inv X pins σ H' s' ∧ IsPart u o ∧ Q o H') X.xe s
def tNoPart : TO := fun _ H Q => Q none H
def tPart (t : TE) : TO := fun σ H Q => t σ H fun x H1 => ∃ i, x = .int i ∧ Q (some i) H1

theorem intsAre_of {ns : List Int} : ∀ {us : List Value}, Vals (ns.map V.int) us → IntsAre us ns := by
  induction ns with
  | nil => intro us r; rw [List.map_nil] at r; cases r; exact .nil
  | cons n ns ih =>
    intro us r
    rw [List.map_cons] at r
    cases r with
    | cons r1 r2 =>
      obtain ⟨t, e⟩ := r1
      subst e
      exact .cons n t (ih r2)

section
variable {X : Cx} {e : Expr} {te : TE} {lo hi : Option Expr} {tl th : TO} {pos p2 : Pos}

theorem po_none : PO X none tNoPart := by
  intro pins s σ H Q I h
  rw [evalPart_none]
  exact wpAny_pure ⟨none, H, I, .none, h⟩
theorem po_some (h : PE X e te) : PO X (some e) (tPart te) := by
  intro pins s σ H Q I hw
  rw [evalPart_some]
  refine thn (h pins s σ H _ I hw) fun u s1 ⟨x, H1, I1, r1, q1⟩ => ?_
  obtain ⟨i, rfl, q⟩ := q1
  obtain ⟨t, rfl⟩ := r1
  exact ⟨some i, H1, I1, .int i t, q⟩

/-- what a slice of a value is, by values: the slice object stands at sl -/
def SlR (X : Cx) (r : V → Option Int → Option Int → Hp → VK → Prop) : Prop :=
  ∀ (pins : List (Addr × Obj)) (s : Shared) (σ : St) (H : Hp) (x : V) (v vl vu : Value) (lo hi : Option Int) (sl : Addr) (Q : VK), Inv X pins σ H s → RelV x v → s.heap.IsSliceOf sl vl vu .none → IsPart vl lo → IsPart vu hi → r x lo hi H Q →
    ∃ T id, typeLookup (.type T) "__getitem__" = pure (some (.builtin id)) ∧ s.TypeIs v T ∧ wpAny (model X.prog X.w) X.A (getItem v (.ref sl)) (EP X pins σ Q) X.xe s
theorem SlR.or {r r' : V → Option Int → Option Int → Hp → VK → Prop} (h : SlR X r) (h' : SlR X r') : SlR X (fun x lo hi H Q => r x lo hi H Q ∨ r' x lo hi H Q) := by
  intro pins s σ H x v vl vu lo hi sl Q I rx hs pl pu q
  rcases q with q | q
  · exact h pins s σ H x v vl vu lo hi sl Q I rx hs pl pu q
  · exact h' pins s σ H x v vl vu lo hi sl Q I rx hs pl pu q
def tSl (r : V → Option Int → Option Int → Hp → VK → Prop) (te : TE) (tl th : TO) : TE := fun σ H Q => te σ H fun x H1 => tl σ H1 fun l H2 => th σ H2 fun u H3 => r x l u H3 Q
/-- a[lo:hi], any a -/
theorem pe_slice {r : V → Option Int → Option Int → Hp → VK → Prop} (hr : SlR X r) (he : PE X e te) (hl : PO X lo tl) (hu : PO X hi th) : PE X (.Subscript e (.Slice lo hi none p2) pos) (tSl r te tl th) := by
  intro pins s σ H Q I h
  refine Subscript_ (thn (he pins s σ H _ I h) fun v s1 ⟨x, H1, I1, r1, q1⟩ => ?_)
  refine wpAny_Slice (thn (hl pins s1 σ H1 _ I1 q1) fun vl s2 ⟨l, H2, I2, pl, q2⟩ => thn (hu pins s2 σ H2 _ I2 q2) fun vu s3 ⟨u, H3, I3, pu, q3⟩ => ?_)
  rw [evalPart_none]
  refine wpAny_pure ?_
  have I4 : Inv X pins σ H3 { s3 with heap := s3.heap.push { cls := .type "slice", data := .fields #[vl, vu, .none] } } := I3.kept (t' := s3.toks) fun b ob q => Heap.get?_push_of_some _ q
  obtain ⟨T, id, hT, ht, hg⟩ := hr pins { s3 with heap := s3.heap.push { cls := .type "slice", data := .fields #[vl, vu, .none] } } σ H3 x v vl vu l u s3.heap.objs.size Q I4 r1 (Heap.IsSliceOf.new ..) pl pu q3
  show wpAny (model X.prog X.w) X.A (subscriptTail e (.Slice lo hi none p2) v (.ref s3.heap.objs.size)) (EP X pins σ Q) X.xe { s3 with heap := s3.heap.push { cls := .type "slice", data := .fields #[vl, vu, .none] } }
  exact tail_any (ops := [.ref s3.heap.objs.size, v]) ht hT hg (by with_unfolding_all rfl)

/-- the items of xs[lo:hi] -/
def cutV (xs : List V) (lo hi : Option Int) : List V := (xs.drop (HT.sIx xs.length 0 lo)).take (HT.sIx xs.length xs.length hi - HT.sIx xs.length 0 lo)
theorem cutV_length (xs : List V) (lo hi : Option Int) : (cutV xs lo hi).length ≤ xs.length := by
  unfold cutV
  rw [List.length_take, List.length_drop]
  omega
/-- t[lo:hi], not the whole of it (the whole would be t itself) -/
def rSlT (K : PySem.W.Frag) : V → Option Int → Option Int → Hp → VK → Prop := fun x lo hi H Q => ∃ a xs, x = .ref a ∧ SqT K H a xs ∧
  ¬ (HT.sIx xs.length 0 lo = 0 ∧ HT.sIx xs.length xs.length hi = xs.length) ∧ ∀ p, H p = none → Q (.ref p) (upd H p (.tup (cutV xs lo hi)))
theorem sl_tup : SlR X (rSlT X.K) := by
  intro pins s σ H x v vl vu lo hi sl Q I rx hs pl pu h
  obtain ⟨a, xs, rfl, hx, hw, q⟩ := h
  cases rx
  obtain ⟨its, r, ht, hz⟩ := I.tuple hx
  have hlen : its.toArray.size = xs.length := by rw [List.size_toArray]; exact r.length.symm
  refine ⟨"tuple", _, PyProof.Rows.slot_tuple_getitem.lookup, ht.typeIs, ?_⟩
  refine HT.getItem_tuple_cut ht hs pl pu (by rw [hlen]; exact hw) ?_ (by rw [hlen]; exact hz)
  rw [hlen]
  refine ⟨.ref s.heap.objs.size, _, I.laid (t' := s.toks) (o := .tup (cutV xs lo hi)) (fun b ob q => Heap.get?_push_of_some _ q) (Nat.le_refl _) ?_, rfl, q _ (I.hok.fresh (Nat.le_refl _))⟩
  exact ⟨Nat.le_trans (cutV_length xs lo hi) hz, _, (r.drop (HT.sIx xs.length 0 lo)).take (HT.sIx xs.length xs.length hi - HT.sIx xs.length 0 lo), IsTup.new _ _⟩

/-! ### t < u, t + u -/
def rLtT (K : PySem.W.Frag) : R2 := fun x y H Q => ∃ a b ns ms, x = .ref a ∧ y = .ref b ∧ SqT K H a (ns.map V.int) ∧ SqT K H b (ms.map V.int) ∧ Q (.bl (HT.lexLt ns ms)) H
theorem op_ltT (hu : X.A.units < cLine) : OpR X (compareOp .Lt) (rLtT X.K) := by
  intro pins s σ H x y v u Q I rx ry h
  obtain ⟨a, b, ns, ms, rfl, rfl, ha, hb, q⟩ := h
  cases rx
  cases ry
  obtain ⟨its, r1, p1, _⟩ := I.tuple ha
  obtain ⟨its2, r2, p2, _⟩ := I.tuple hb
  have i1 : IntsAre its.toArray.toList ns := intsAre_of r1
  have i2 : IntsAre its2.toArray.toList ms := intsAre_of r2
  exact HT.lt_tupInts p1 p2 i1 i2 hu ⟨.bl (HT.lexLt ns ms), H, I, rfl, q⟩
/-- t + u, t not empty: u empty gives t itself -/
def rCatT (K : PySem.W.Frag) : R2 := fun x y H Q => ∃ a b xs ys, x = .ref a ∧ y = .ref b ∧ SqT K H a xs ∧ SqT K H b ys ∧ xs ≠ [] ∧ xs.length + ys.length ≤ sizeLine ∧
  (ys = [] → Q (.ref a) H) ∧ (ys ≠ [] → ∀ p, H p = none → Q (.ref p) (upd H p (.tup (xs ++ ys))))
theorem Vals.nil_iff {xs : List V} {us : List Value} (r : Vals xs us) : us = [] ↔ xs = [] := by
  cases r with
  | nil => simp
  | cons _ _ => simp
theorem op_catT : OpR X (binaryOp .Add) (rCatT X.K) := by
  intro pins s σ H x y v u Q I rx ry h
  obtain ⟨a, b, xs, ys, rfl, rfl, ha, hb, hx, hz, q1, q2⟩ := h
  cases rx
  cases ry
  obtain ⟨its, r1, p1, _⟩ := I.tuple ha
  obtain ⟨its2, r2, p2, _⟩ := I.tuple hb
  refine HT.cat_tup p1 p2 (fun z => hx (r1.nil_iff.mp z)) (fun z => ⟨.ref a, H, I, rfl, q1 (r2.nil_iff.mp z)⟩) (fun z => ?_) (by rw [← r1.length, ← r2.length]; exact hz)
  refine ⟨.ref s.heap.objs.size, _, I.laid (t' := s.toks) (o := .tup (xs ++ ys)) (fun b ob q => Heap.get?_push_of_some _ q) (Nat.le_refl _) ?_, rfl, q2 (fun w => z (r2.nil_iff.mpr w)) _ (I.hok.fresh (Nat.le_refl _))⟩
  exact ⟨by rw [List.length_append]; exact hz, _, r1.append r2, IsTup.new _ _⟩
/-- tuple(t) -/
theorem call_tupleT : CallR X (.type "tuple") (fun xs H Q => ∃ a ys, xs = [.ref a] ∧ SqT X.K H a ys ∧ Q (.ref a) H) := by
  intro pins s σ H xs us Q I r h
  obtain ⟨a, ys, rfl, ha, q⟩ := h
  obtain ⟨u, rfl, ru⟩ := vals1 r
  cases ru
  obtain ⟨its, _, p1, _⟩ := I.tuple ha
  exact call_tuple_same (items := its.toArray) p1 ⟨.ref a, H, I, rfl, q⟩
end
end L2

namespace L2
open PySem PySem.Spec PyProof.Rows

/-! ### places -/
/-- the place that an index of any sign means -/
def ixN (n : Nat) (i : Int) : Option Nat := if 0 ≤ i then (if i < n then some i.toNat else none) else if -(n : Int) ≤ i then some (i + n).toNat else none
def atI {α : Type} (xs : List α) (i : Int) : Option α := (ixN xs.length i).bind fun j => xs[j]?
theorem ixN_seq {n : Nat} {i : Int} {j : Nat} (h : ixN n i = some j) : seqIndex? i n = some j ∧ j < n ∧ -(n : Int) ≤ i ∧ i < n := by
  unfold ixN at h
  by_cases h0 : 0 ≤ i
  · rw [if_pos h0] at h
    by_cases h1 : i < n
    · rw [if_pos h1] at h
      have e : i.toNat = j := Option.some.inj h
      exact ⟨by rw [seqIndex_of h0 h1, e], by omega, by omega, h1⟩
    · rw [if_neg h1] at h; cases h
  · rw [if_neg h0] at h
    by_cases h1 : -(n : Int) ≤ i
    · rw [if_pos h1] at h
      have e : (i + n).toNat = j := Option.some.inj h
      exact ⟨by rw [seqIndex_neg (by omega) h1, e], by omega, h1, by omega⟩
    · rw [if_neg h1] at h; cases h
theorem atI_get {α : Type} {xs : List α} {i : Int} {v : α} (h : atI xs i = some v) : ∃ j, seqIndex? i xs.length = some j ∧ xs[j]? = some v ∧ j < xs.length ∧ -(xs.length : Int) ≤ i ∧ i < xs.length := by
  unfold atI at h
  cases e : ixN xs.length i with
  | none => rw [e] at h; cases h
  | some j =>
    rw [e] at h
    obtain ⟨h1, h2, h3, h4⟩ := ixN_seq e
    exact ⟨j, h1, h, h2, h3, h4⟩
theorem atI_nat {α : Type} {xs : List α} {j : Nat} {v : α} (h : xs[j]? = some v) : atI xs (j : Int) = some v := by
  have hj : j < xs.length := (List.getElem?_eq_some_iff.mp h).1
  have e : ixN xs.length (j : Int) = some j := by
    unfold ixN
    rw [if_pos (by omega), if_pos (by omega)]; simp
  unfold atI; rw [e]; exact h
theorem atI_last {α : Type} (xs : List α) (v : α) : atI (xs ++ [v]) (-1) = some v := by
  have hl : (xs ++ [v]).length = xs.length + 1 := by simp
  have e : ixN (xs ++ [v]).length (-1) = some xs.length := by
    unfold ixN
    rw [hl, if_neg (by decide), if_pos (by omega)]
    congr 1
    omega
  unfold atI
  rw [e]
  show (xs ++ [v])[xs.length]? = some v
  simp

/-! ### what may be subscripted -/
/-- what stands as an index of a plain subscript -/
def PlainIx (b : Expr) : Prop := ∀ o i, subscripted b false o i = operate [o, i] (getItem o i)
/-- a subscript by values -/
def IxR (X : Cx) (r : R2) : Prop :=
  ∀ (value slice : Expr) (pins : List (Addr × Obj)) (s : Shared) (σ : St) (H : Hp) (x y : V) (v u : Value) (Q : VK), Inv X pins σ H s → RelV x v → RelV y u → r x y H Q →
    subscripted slice false v u = operate [v, u] (getItem v u) → wpAny (model X.prog X.w) X.A (subscriptTail value slice v u) (EP X pins σ Q) X.xe s
/-- a call of a builtin's method by values: the receiver, the arguments -/
def MtR (X : Cx) (id : String) (r : V → List V → Hp → VK → Prop) : Prop :=
  ∀ (pins : List (Addr × Obj)) (s : Shared) (σ : St) (H : Hp) (x : V) (xs : List V) (v : Value) (us : List Value) (Q : VK), Inv X pins σ H s → RelV x v → Vals xs us → r x xs H Q →
    wpAny (model X.prog X.w) X.A (call (.builtin id) (v :: us)) (EP X pins σ Q) X.xe s
section
variable {X : Cx} {a b : Expr} {ta tb : TE} {pos : Pos}
theorem IxR.or {r r' : R2} (h : IxR X r) (h' : IxR X r') : IxR X (fun x y H Q => r x y H Q ∨ r' x y H Q) := by
  intro value slice pins s σ H x y v u Q I rx ry q hs
  rcases q with q | q
  · exact h value slice pins s σ H x y v u Q I rx ry q hs
  · exact h' value slice pins s σ H x y v u Q I rx ry q hs
theorem MtR.or {id : String} {r r' : V → List V → Hp → VK → Prop} (h : MtR X id r) (h' : MtR X id r') : MtR X id (fun x xs H Q => r x xs H Q ∨ r' x xs H Q) := by
  intro pins s σ H x xs v us Q I rx rs q
  rcases q with q | q
  · exact h pins s σ H x xs v us Q I rx rs q
  · exact h' pins s σ H x xs v us Q I rx rs q
/-- a[b] -/
theorem pe_ix {r : R2} (hr : IxR X r) (ha : PE X a ta) (hb : PE X b tb) (hs : PlainIx b) : PE X (.Subscript a b pos) (tOp r ta tb) := by
  intro pins s σ H Q I h
  exact Subscript_ (binT ha hb I h fun v u s2 x y H2 I2 rx ry q => hr a b pins s2 σ H2 x y v u Q I2 rx ry q (hs _ _))

def rIxL (K : PySem.W.Frag) : R2 := fun x y H Q => ∃ p xs i v, x = .ref p ∧ y = .int i ∧ SqL K H p xs ∧ atI xs i = some v ∧ Q v H
def rIxT (K : PySem.W.Frag) : R2 := fun x y H Q => ∃ p xs i v, x = .ref p ∧ y = .int i ∧ SqT K H p xs ∧ atI xs i = some v ∧ Q v H
def rIxS : R2 := fun x y H Q => ∃ z i c, x = .str z ∧ y = .int i ∧ z.length ≤ sizeLine ∧ atI z.cps.toList i = some c ∧ Q (.str ⟨#[c]⟩) H
theorem ix_list : IxR X (rIxL X.K) := by
  intro value slice pins s σ H x y v u Q I rx ry h hs
  obtain ⟨p, xs, i, z, rfl, rfl, hq, he, q⟩ := h
  cases rx
  obtain ⟨t, rfl⟩ := ry
  obtain ⟨its, r, pl, hz⟩ := I.list hq
  obtain ⟨j, h1, h2, h3, h4, h5⟩ := atI_get he
  obtain ⟨w, ew, rw'⟩ := r.get h2
  have hl := r.length
  have hn := line63
  have fin : EP X pins σ Q w s := ⟨z, H, I, rw', q⟩
  by_cases h0 : 0 ≤ i
  · have hj : i.toNat = j := by
      rw [seqIndex_of h0 h5] at h1
      exact Option.some.inj h1
    exact item_listR pl.isList h0 (by omega) (by rw [hj]; simpa using ew) fin hs
  · have hj : (i + (its.toArray.size : Int)).toNat = j := by
      rw [seqIndex_neg (by omega) h4] at h1
      rw [List.size_toArray, ← hl]
      exact Option.some.inj h1
    exact subscriptTail_builtinR (x := w) pl.isList.typeIs slot_list_getitem.lookup
      (wpAny_getItem_list_neg (Q := fun r s' => r = w ∧ EP X pins σ Q r s') pl.isList (by omega) (by rw [List.size_toArray] <;> omega) (by omega) (by rw [hj]; simpa using ew) ⟨rfl, fin⟩) hs
theorem ix_tup : IxR X (rIxT X.K) := by
  intro value slice pins s σ H x y v u Q I rx ry h hs
  obtain ⟨p, xs, i, z, rfl, rfl, hq, he, q⟩ := h
  cases rx
  obtain ⟨t, rfl⟩ := ry
  obtain ⟨its, r, pl, hz⟩ := I.tuple hq
  obtain ⟨j, h1, h2, h3, h4, h5⟩ := atI_get he
  obtain ⟨w, ew, rw'⟩ := r.get h2
  have hl := r.length
  have hn := line63
  have fin : EP X pins σ Q w s := ⟨z, H, I, rw', q⟩
  exact subscriptTail_builtinR (x := w) pl.typeIs slot_tuple_getitem.lookup
    (getItem_tuple (j := j) (Q := fun r s' => r = w ∧ EP X pins σ Q r s') pl (by omega) (by omega) (by rw [List.size_toArray, ← hl]; exact h1) (by simpa using ew) ⟨rfl, fin⟩) hs
theorem ix_str : IxR X rIxS := by
  intro value slice pins s σ H x y v u Q I rx ry h hs
  obtain ⟨z, i, c, rfl, rfl, hz, he, q⟩ := h
  obtain ⟨t, rfl⟩ := rx
  obtain ⟨t', rfl⟩ := ry
  obtain ⟨j, h1, h2, h3, h4, h5⟩ := atI_get he
  have hl : z.cps.toList.length = z.length := by simp [Str.length]
  rw [hl] at h1 h4 h5
  have hn := line63
  exact tail_any (typeIs_str s z t) slot_str_getitem.lookup (getItem_str (c := c) (by
    have e1 : decide (i < -(2 ^ 63 : Int)) = false := decide_eq_false (by omega)
    have e2 : decide (i ≥ 2 ^ 63) = false := decide_eq_false (by omega)
    rw [e1, e2, Bool.or_false]) (by rw [h1]; simpa using h2) ⟨.str ⟨#[c]⟩, H, I.tok _, ⟨_, rfl⟩, q⟩) hs
/-- list, tuple or str -/
def rIx (K : PySem.W.Frag) : R2 := fun x y H Q => rIxL K x y H Q ∨ rIxT K x y H Q ∨ rIxS x y H Q
theorem ix_seq : IxR X (rIx X.K) := ix_list.or (ix_tup.or ix_str)

/-! ### xs[i] = v, any sign -/
/-- the list's object behind a store -/
theorem mapSeq_set (its : List Value) (n j : Nat) (u : Value) : Obj.mapSeq (·.setIfInBounds j u) { cls := .type "list", data := .seq its.toArray n } = { cls := .type "list", data := .seq (its.set j u).toArray n } := by
  simp [Obj.mapSeq]
theorem Inv.lst {pins : List (Addr × Obj)} {σ : St} {H : Hp} {s : Shared} {p : Addr} {xs : List V} (I : Inv X pins σ H s) (h : H p = some (.lst xs)) :
    ∃ (its : List Value) (n : Nat), Vals xs its ∧ s.heap.get? p = some { cls := .type "list", data := .seq its.toArray n } ∧ xs.length ≤ sizeLine := by
  obtain ⟨z, its, n, r, e⟩ := I.hok p _ h
  exact ⟨its, n, r, e, z⟩
/-- the list at p is written by an update of its object -/
theorem Inv.lstUpd {pins : List (Addr × Obj)} {σ : St} {H : Hp} {s : Shared} {p : Addr} {xs ys : List V} {its its' : List Value} {n n' : Nat} {f : Obj → Obj} (I : Inv X pins σ H s) (h : H p = some (.lst xs))
    (ho : s.heap.get? p = some { cls := .type "list", data := .seq its.toArray n }) (hf : f { cls := .type "list", data := .seq its.toArray n } = { cls := .type "list", data := .seq its'.toArray n' }) (r : Vals ys its') (hz : ys.length ≤ sizeLine) (t : Nat) :
    Inv X pins σ (upd H p (.lst ys)) { s with heap := s.heap.update p f, toks := t } := by
  have e : (s.heap.update p f).get? p = some { cls := .type "list", data := .seq its'.toArray n' } := by
    rw [Heap.get?_update_self f ho (by rw [hf] <;> rfl), hf]
  refine I.write (x := p) (e := p) (by rw [h]; trivial) (.inl rfl) (fun b u hb q => (Heap.get?_update_other _ _ (Ne.symm hb)).trans q) ⟨_, e⟩ ?_
  exact ⟨hz, its', n', r, e⟩
def rSetL : V → V → V → Hp → (Hp → Prop) → Prop := fun o i v H Q => ∃ p xs k j, o = .ref p ∧ i = .int k ∧ H p = some (.lst xs) ∧ ixN xs.length k = some j ∧ Q (upd H p (.lst (xs.set j v)))
theorem set_list : PSet X rSetL := by
  intro pins s σ H o i v ov iv u Q I ro ri rv h
  obtain ⟨p, xs, k, j, rfl, rfl, hp, hj, q⟩ := h
  cases ro
  obtain ⟨t, rfl⟩ := ri
  obtain ⟨its, n, r, ho, hz⟩ := I.lst hp
  obtain ⟨h1, h2, h3, h4⟩ := ixN_seq hj
  have hl := r.length
  have hn := line63
  have I' : Inv X pins σ (upd H p (.lst (xs.set j v))) { s with heap := s.heap.update p (Obj.mapSeq (·.setIfInBounds j u)) } :=
    I.lstUpd hp ho (mapSeq_set its n j u) (r.set rv j) (by rw [List.length_set]; exact hz) s.toks
  by_cases h0 : 0 ≤ k
  · have hk : k.toNat = j := by
      rw [seqIndex_of h0 h4] at h1
      exact Option.some.inj h1
    exact PySem.W.ki_setAt ho h0 (by omega) (by rw [List.size_toArray, ← hl]; exact h4) (by rw [hk]; exact ⟨_, I', q⟩)
  · have hk : (k + (its.toArray.size : Int)).toNat = j := by
      rw [seqIndex_neg (by omega) h3] at h1
      rw [List.size_toArray, ← hl]
      exact Option.some.inj h1
    exact PySem.W.ki_setBack ho (by omega) (by rw [List.size_toArray, ← hl]; exact h3) (by omega) (by rw [hk]; exact ⟨_, I', q⟩)

/-! ### slices -/
theorem slice_bounds (lo hi : Option Int) (n : Nat) : (sliceBounds lo hi none n).1 = ((HT.sIx n 0 lo : Nat) : Int) ∧ (sliceBounds lo hi none n).2.1 = ((HT.sIx n n hi : Nat) : Int) ∧ (sliceBounds lo hi none n).2.2 = 1 := by
  refine ⟨?_, ?_, rfl⟩
  · cases lo with
    | none => simp [sliceBounds, HT.sIx]
    | some i =>
      simp only [sliceBounds, HT.sIx, Option.getD_none, show (1 : Int) > 0 by decide, if_true]
      by_cases h : i < 0
      · simp only [h, if_true] <;> omega
      · simp only [h, if_false] <;> omega
  · cases hi with
    | none => simp [sliceBounds, HT.sIx]
    | some i =>
      simp only [sliceBounds, HT.sIx, Option.getD_none, show (1 : Int) > 0 by decide, if_true]
      by_cases h : i < 0
      · simp only [h, if_true] <;> omega
      · simp only [h, if_false] <;> omega
theorem slicePick_cut (its : List Value) (lo hi : Option Int) : slicePick its.toArray lo hi none = ((its.drop (HT.sIx its.length 0 lo)).take (HT.sIx its.length its.length hi - HT.sIx its.length 0 lo)).toArray := by
  obtain ⟨h1, h2, h3⟩ := slice_bounds lo hi its.toArray.size
  unfold slicePick
  rw [h1, h2, h3]
  simp only [sliceRange_one, pick_run, List.size_toArray] <;> rfl
/-- xs[lo:hi] of a list: a new list -/
def rSlL (K : PySem.W.Frag) : V → Option Int → Option Int → Hp → VK → Prop := fun x lo hi H Q => ∃ a xs, x = .ref a ∧ SqL K H a xs ∧ ∀ p, H p = none → Q (.ref p) (upd H p (.lst (cutV xs lo hi)))
theorem sl_list : SlR X (rSlL X.K) := by
  intro pins s σ H x v vl vu lo hi sl Q I rx hs pl pu h
  obtain ⟨a, xs, rfl, hx, q⟩ := h
  cases rx
  obtain ⟨its, r, ht, hz⟩ := I.list hx
  have hlen := r.length
  refine ⟨"list", _, slot_list_getitem.lookup, ht.isList.typeIs, ?_⟩
  refine wpAny_getItem_list_slice ht.isList hs pl pu .none (by simp) ?_ (by rw [List.size_toArray] <;> omega)
  rw [slicePick_cut, ← hlen]
  refine ⟨.ref s.heap.objs.size, _, I.laid (t' := s.toks) (o := .lst (cutV xs lo hi)) (fun b ob q => Heap.get?_push_of_some _ q) (Nat.le_refl _) ?_, rfl, q _ (I.hok.fresh (Nat.le_refl _))⟩
  exact ⟨Nat.le_trans (cutV_length xs lo hi) hz, _, 0, (r.drop (HT.sIx xs.length 0 lo)).take (HT.sIx xs.length xs.length hi - HT.sIx xs.length 0 lo), Heap.get?_push_size _ rfl⟩

/-! ### in, not in: flat items -/
def flatV : V → Bool
  | .non => true
  | .bl _ => true
  | .int _ => true
  | .str _ => true
  | _ => false
/-- == of flat values -/
def eqV : V → V → Bool
  | .non, .non => true
  | .bl a, .bl b => a == b
  | .bl a, .int b => (if a then 1 else 0) == b
  | .int a, .bl b => a == (if b then 1 else 0)
  | .int a, .int b => a == b
  | .str a, .str b => a == b
  | _, _ => false
theorem eqAt_V {A : Around} {s : Shared} {y x : V} {u v : Value} (ry : RelV y u) (rx : RelV x v) (fy : flatV y = true) (fx : flatV x = true) : SeqAt.EqAt A s u v (eqV y x) := by
  cases y with
  | non =>
    cases ry
    cases x with
    | non => cases rx; exact SeqAt.EqAt.same _
    | bl b => cases rx; exact SeqAt.EqAt.none_bool b
    | int b => obtain ⟨t, rfl⟩ := rx; exact SeqAt.EqAt.none_int b t
    | str b => obtain ⟨t, rfl⟩ := rx; exact SeqAt.EqAt.none_str b t
    | _ => exact absurd (show false = true from fx) Bool.false_ne_true
  | bl a =>
    cases ry
    cases x with
    | non => cases rx; exact SeqAt.EqAt.bool_none a
    | bl b => cases rx; exact SeqAt.EqAt.bool_bool a b
    | int b => obtain ⟨t, rfl⟩ := rx; exact SeqAt.EqAt.bool_int a b t
    | str b => obtain ⟨t, rfl⟩ := rx; exact SeqAt.EqAt.bool_str a b t
    | _ => exact absurd (show false = true from fx) Bool.false_ne_true
  | int a =>
    obtain ⟨t', rfl⟩ := ry
    cases x with
    | non => cases rx; exact SeqAt.EqAt.int_none a t'
    | bl b => cases rx; exact SeqAt.EqAt.int_bool a t' b
    | int b => obtain ⟨t, rfl⟩ := rx; exact SeqAt.EqAt.int_int a t' b t
    | str b => obtain ⟨t, rfl⟩ := rx; exact SeqAt.EqAt.int_str a t' b t
    | _ => exact absurd (show false = true from fx) Bool.false_ne_true
  | str a =>
    obtain ⟨t', rfl⟩ := ry
    cases x with
    | non => cases rx; exact SeqAt.EqAt.str_none a t'
    | bl b => cases rx; exact SeqAt.EqAt.str_bool a t' b
    | int b => obtain ⟨t, rfl⟩ := rx; exact SeqAt.EqAt.str_int a t' b t
    | str b => obtain ⟨t, rfl⟩ := rx; exact SeqAt.EqAt.str_str a t' b t
    | _ => exact absurd (show false = true from fx) Bool.false_ne_true
  | _ => exact absurd (show false = true from fy) Bool.false_ne_true
/-- the items' answers, read off the values (a value's own answer does not lean on its token) -/
def eqU (x : V) (u : Value) : Bool := match u with
  | .none => eqV .non x
  | .bool b => eqV (.bl b) x
  | .int i _ => eqV (.int i) x
  | .str z _ => eqV (.str z) x
  | _ => false
theorem eqU_of {x y : V} {u : Value} (r : RelV y u) (f : flatV y = true) : eqU x u = eqV y x := by
  cases y with
  | non => cases r; rfl
  | bl b => cases r; rfl
  | int i => obtain ⟨t, rfl⟩ := r; rfl
  | str z => obtain ⟨t, rfl⟩ := r; rfl
  | _ => exact absurd (show false = true from f) Bool.false_ne_true
theorem any_eqU {x : V} : ∀ {xs : List V} {us : List Value}, Vals xs us → xs.all flatV = true → us.any (eqU x) = xs.any fun y => eqV y x
  | _, _, .nil, _ => rfl
  | y :: xs, u :: us, .cons r t, f => by
    rw [List.all_cons, Bool.and_eq_true] at f
    rw [List.any_cons, List.any_cons, eqU_of r f.1, any_eqU t f.2]
theorem mem_eqAt {A : Around} {s : Shared} {x : V} {v : Value} (rx : RelV x v) (fx : flatV x = true) : ∀ {xs : List V} {us : List Value}, Vals xs us → xs.all flatV = true → ∀ u ∈ us, SeqAt.EqAt A s u v (eqU x u)
  | _, _, .nil, _ => fun u hu => by cases hu
  | y :: xs, u :: us, .cons r t, f => fun u' hu => by
    rw [List.all_cons, Bool.and_eq_true] at f
    rcases List.mem_cons.mp hu with rfl | hu
    · rw [eqU_of r f.1]; exact eqAt_V r rx f.1 fx
    · exact mem_eqAt rx fx t f.2 u' hu
def inV (x : V) (xs : List V) : Bool := xs.any fun y => eqV y x
/-- x in a list or tuple of flat items -/
def rIn (K : PySem.W.Frag) (neg : Bool) : R2 := fun x y H Q => ∃ p xs, y = .ref p ∧ (SqL K H p xs ∨ SqT K H p xs) ∧ flatV x = true ∧ xs.all flatV = true ∧ Q (.bl (if neg then !inV x xs else inV x xs)) H
theorem op_in_seq : OpR X (compareOp .In) (rIn X.K false) := by
  intro pins s σ H x y v u Q I rx ry h
  obtain ⟨p, xs, rfl, hq, fx, fs, q⟩ := h
  cases ry
  rcases hq with hq | hq
  · obtain ⟨its, r, pl, hz⟩ := I.list hq
    refine SeqAt.in_listAt (eqU x) pl.isList (fun w hw => mem_eqAt rx fx r fs w (by simpa using hw)) ⟨.bl _, H, I, rfl, ?_⟩
    rw [show its.toArray.any (eqU x) = its.any (eqU x) by simp, any_eqU r fs]
    exact q
  · obtain ⟨its, r, pl, hz⟩ := I.tuple hq
    refine SeqAt.in_tupleAt (eqU x) pl (fun w hw => mem_eqAt rx fx r fs w (by simpa using hw)) ⟨.bl _, H, I, rfl, ?_⟩
    rw [show its.toArray.any (eqU x) = its.any (eqU x) by simp, any_eqU r fs]
    exact q
theorem op_notIn_seq : OpR X (compareOp .NotIn) (rIn X.K true) := by
  intro pins s σ H x y v u Q I rx ry h
  obtain ⟨p, xs, rfl, hq, fx, fs, q⟩ := h
  cases ry
  rcases hq with hq | hq
  · obtain ⟨its, r, pl, hz⟩ := I.list hq
    refine SeqAt.notIn_listAt (eqU x) pl.isList (fun w hw => mem_eqAt rx fx r fs w (by simpa using hw)) ⟨.bl _, H, I, rfl, ?_⟩
    rw [show its.toArray.any (eqU x) = its.any (eqU x) by simp, any_eqU r fs]
    exact q
  · obtain ⟨its, r, pl, hz⟩ := I.tuple hq
    refine SeqAt.notIn_tupleAt (eqU x) pl (fun w hw => mem_eqAt rx fx r fs w (by simpa using hw)) ⟨.bl _, H, I, rfl, ?_⟩
    rw [show its.toArray.any (eqU x) = its.any (eqU x) by simp, any_eqU r fs]
    exact q
theorem op_notIn_str : OpR X (compareOp .NotIn) (fun x y H Q => ∃ i j, x = .str i ∧ y = .str j ∧ Q (.bl (!(!(Builtin.Str.occurrences j i 0 j.length 1).isEmpty))) H) := by
  intro pins s σ H x y v u Q I rx ry h
  obtain ⟨i, j, rfl, rfl, q⟩ := h
  obtain ⟨t, rfl⟩ := rx
  obtain ⟨t', rfl⟩ := ry
  exact notIn_str ⟨.bl _, H, I, rfl, q⟩

/-! ### len, list(x), tuple(x) of any list or tuple that is read -/
theorem call_len_seq : CallR X (.builtin "len") (fun xs H Q => ∃ p ys, xs = [.ref p] ∧ (SqL X.K H p ys ∨ SqT X.K H p ys) ∧ Q (.int ys.length) H) := by
  intro pins s σ H xs us Q I r h
  obtain ⟨p, ys, rfl, hq, q⟩ := h
  obtain ⟨u, rfl, rx⟩ := vals1 r
  cases rx
  have hn := line63
  rcases hq with hq | hq
  · obtain ⟨its, r', pl, hz⟩ := I.list hq
    have hlen := r'.length
    exact Calls.call_len_list pl.isList (by simp only [List.size_toArray] <;> omega) ⟨.int ys.length, H, I.tok _, ⟨s.toks + 1, by rw [List.size_toArray, hlen]⟩, q⟩
  · obtain ⟨its, r', pl, hz⟩ := I.tuple hq
    have hlen := r'.length
    exact len_tuple pl (by simp only [List.size_toArray] <;> omega) ⟨.int ys.length, H, I.tok _, ⟨s.toks + 1, by rw [List.size_toArray, hlen]⟩, q⟩
theorem call_len_str : CallR X (.builtin "len") (fun xs H Q => ∃ z, xs = [.str z] ∧ z.length ≤ sizeLine ∧ Q (.int z.length) H) := by
  intro pins s σ H xs us Q I r h
  obtain ⟨z, rfl, hz, q⟩ := h
  obtain ⟨u, rfl, t, rfl⟩ := vals1 r
  have hn := line63
  exact len_str (by omega) ⟨.int z.length, H, I.tok _, ⟨_, rfl⟩, q⟩
theorem CallR.or {f : Value} {r r' : List V → Hp → VK → Prop} (h : CallR X f r) (h' : CallR X f r') : CallR X f (fun xs H Q => r xs H Q ∨ r' xs H Q) := by
  intro pins s σ H xs us Q I rs q
  rcases q with q | q
  · exact h pins s σ H xs us Q I rs q
  · exact h' pins s σ H xs us Q I rs q
theorem call_list_of : CallR X (.type "list") (fun xs H Q => ∃ p ys, xs = [.ref p] ∧ (SqL X.K H p ys ∨ SqT X.K H p ys) ∧ ∀ l, H l = none → Q (.ref l) (upd H l (.lst ys))) := by
  intro pins s σ H xs us Q I r h
  obtain ⟨p, ys, rfl, hq, q⟩ := h
  obtain ⟨u, rfl, rx⟩ := vals1 r
  cases rx
  have fin : ∀ (its : List Value), Vals ys its → ys.length ≤ sizeLine → ∀ (h' : Heap) (c' : Nat), (∀ b o', s.heap.get? b = some o' → h'.get? b = some o') →
      h'.get? s.heap.objs.size = some { cls := .type "list", dict := none, data := .seq its.toArray c', slots := #[] } → EP X pins σ Q (.ref s.heap.objs.size) { s with heap := h' } := fun its r' hz h' c' kp e =>
    ⟨.ref s.heap.objs.size, _, I.laid (t' := s.toks) kp (Nat.le_refl _) (show ObjOk X.prog X.w _ h' _ (.lst ys) from ⟨hz, its, c', r', e⟩), rfl, q _ (I.hok.fresh (Nat.le_refl _))⟩
  rcases hq with hq | hq
  · obtain ⟨its, r', pl, hz⟩ := I.list hq
    have hlen := r'.length
    obtain ⟨o, ho, hc, n, hd⟩ := pl.isList
    exact call_list_seq p (.inl rfl) ho hc hd (fun h' c' kp e => fin its r' hz h' c' kp e) (by simp only [List.size_toArray] <;> omega)
  · obtain ⟨its, r', pl, hz⟩ := I.tuple hq
    have hlen := r'.length
    obtain ⟨o, ho, hc, n, hd⟩ := pl
    exact call_list_seq p (.inr rfl) ho hc hd (fun h' c' kp e => fin its r' hz h' c' kp e) (by simp only [List.size_toArray] <;> omega)
theorem call_tuple_of : CallR X (.type "tuple") (fun xs H Q => ∃ p ys, xs = [.ref p] ∧ ((SqL X.K H p ys ∧ ∀ l, H l = none → Q (.ref l) (upd H l (.tup ys))) ∨ (SqT X.K H p ys ∧ Q (.ref p) H))) := by
  intro pins s σ H xs us Q I r h
  obtain ⟨p, ys, rfl, h⟩ := h
  obtain ⟨u, rfl, rx⟩ := vals1 r
  cases rx
  rcases h with ⟨hq, q⟩ | ⟨hq, q⟩
  · obtain ⟨its, r', pl, hz⟩ := I.list hq
    have hlen := r'.length
    refine call_tuple_list pl.isList (fun h' kp => ?_) (by simp only [List.size_toArray] <;> omega)
    have I1 : Inv X pins σ H { s with heap := h' } := I.kept (t' := s.toks) kp
    have I2 : Inv X pins σ (upd H h'.objs.size (.tup ys)) { s with heap := h'.push { cls := .type "tuple", data := .seq its.toArray } } :=
      I1.laid (t' := s.toks) (fun b o e => Heap.get?_push_of_some _ e) (Nat.le_refl _) (show ObjOk X.prog X.w _ _ _ (.tup ys) from ⟨hz, its, r', IsTup.new _ _⟩)
    exact ⟨.ref h'.objs.size, _, I2, rfl, q _ (I1.hok.fresh (Nat.le_refl _))⟩
  · obtain ⟨its, r', pl, hz⟩ := I.tuple hq
    exact call_tuple_same pl ⟨.ref p, H, I, rfl, q⟩

/-! ### the call of a builtin's method: o.m(..) -/
/-- the value is of that builtin type -/
def tyV (K : PySem.W.Frag) (T : String) (x : V) (H : Hp) : Prop := match x with
  | .str _ => T = "str"
  | .int _ => T = "int"
  | .ref p => (T = "list" ∧ ∃ xs, SqL K H p xs) ∨ (T = "tuple" ∧ ∃ o, K.lookup p = some o ∧ o.cls = .type "tuple" ∧ o.dict = none) ∨
      (T = "dict" ∧ ((∃ kvs, H p = some (.dK kvs)) ∨ ∃ kvs, H p = some (.dT kvs))) ∨ (T = "set" ∧ ∃ S n, H p = some (.set S n))
  | _ => False
theorem tyV_is {pins : List (Addr × Obj)} {σ : St} {H : Hp} {s : Shared} {T : String} {x : V} {v : Value} (I : Inv X pins σ H s) (r : RelV x v) (ty : tyV X.K T x H) :
    s.TypeIs v T ∧ ∀ a, v = .ref a → ∃ ob, s.heap.get? a = some ob ∧ ob.dict = none := by
  cases x with
  | str z =>
    obtain ⟨t, rfl⟩ := r
    cases (show T = "str" from ty)
    exact ⟨typeIs_str s z t, fun _ e => nomatch e⟩
  | int i =>
    obtain ⟨t, rfl⟩ := r
    cases (show T = "int" from ty)
    exact ⟨typeIs_int s i t, fun _ e => nomatch e⟩
  | ref p =>
    cases r
    rcases ty with ⟨rfl, xs, hq⟩ | ⟨rfl, o, hk, hc, hd⟩ | ⟨rfl, hk⟩ | ⟨rfl, S, n, hk⟩
    · obtain ⟨its, _, pl, _⟩ := I.list hq
      refine ⟨pl.isList.typeIs, fun a e => ?_⟩
      cases e
      obtain ⟨o, n, e, c, hd, _⟩ := pl
      exact ⟨o, e, hd⟩
    · refine ⟨⟨o, I.kIn p o hk, hc⟩, fun a e => ?_⟩
      cases e
      exact ⟨o, I.kIn _ o hk, hd⟩
    · have z : ∃ o, s.heap.get? p = some o ∧ o.ExactDict := by
        rcases hk with ⟨kvs, hk⟩ | ⟨kvs, hk⟩
        · obtain ⟨_, _, _, _, o, _, _, e, ex, _⟩ := I.hok p _ hk
          exact ⟨o, e, ex⟩
        · obtain ⟨_, _, _, _, o, _, _, e, ex, _⟩ := I.hok p _ hk
          exact ⟨o, e, ex⟩
      obtain ⟨o, e, ex⟩ := z
      refine ⟨⟨o, e, ex.1⟩, fun a e2 => ?_⟩
      cases e2
      exact ⟨o, e, ex.2.1⟩
    · obtain ⟨o, _, _, _, e, ex, _⟩ := I.hok p _ hk
      refine ⟨⟨o, e, ex.1⟩, fun a e2 => ?_⟩
      cases e2
      exact ⟨o, e, ex.2.1⟩
  | _ => exact False.elim ty
def tBM0 (K : PySem.W.Frag) (T : String) (r : V → List V → Hp → VK → Prop) (to : TE) : TE := fun σ H Q => to σ H fun x H1 => tyV K T x H1 ∧ r x [] H1 Q
def tBM (K : PySem.W.Frag) (T : String) (r : V → List V → Hp → VK → Prop) (to : TE) (t : TA) : TE := fun σ H Q => to σ H fun x H1 => tyV K T x H1 ∧ t σ H1 fun xs H2 => r x xs H2 Q
variable {o e : Expr} {es : List Expr} {to : TE} {t : TA} {name : Str} {apos cpos : Pos} {T id : String} {r : V → List V → Hp → VK → Prop}
theorem pe_bm0 (pa : PlainAttrs T) (slot : Slot T name id) (hty : typeOf (.builtin id) = pure (.type "method_descriptor")) (hm : MtR X id r) (ho : PE X o to)
    (hbase : attributeBase o name X.env (eval o X.env) = eval o X.env := by rfl) (hline : (apos.endLine == cpos.line) = true := by rfl) : PE X (.Call (.Attribute o name apos) [] [] cpos) (tBM0 X.K T r to) := by
  intro pins s σ H Q I h
  refine wpAny_Call_method0_late hbase hline (thn (ho pins s σ H _ I h) fun v s1 ⟨x, H1, I1, r1, ty, q1⟩ => ?_)
  obtain ⟨h1, h2⟩ := tyV_is I1 r1 ty
  exact ⟨T, id, pa, slot, hty, h1, h2, Calls.callWith_builtin rfl (PySem.evalArgs_none (hm pins s1 σ H1 x [] v [] Q I1 r1 .nil q1))⟩
theorem pe_bm (pa : PlainAttrs T) (slot : Slot T name id) (hty : typeOf (.builtin id) = pure (.type "method_descriptor")) (hm : MtR X id r) (ho : PE X o to) (ha : PA X (e :: es) t)
    (hbase : attributeBase o name X.env (eval o X.env) = eval o X.env := by rfl)
    (hfew : ((backTo cpos (starEach (e :: es) X.env)).all (fun x => !x.1) && (backToKw cpos (keywordEach [] X.env)).all (fun x => x.1.isSome)
      && decide ((e :: es).length + ([] : List Keyword).length + (if ([] : List Keyword).isEmpty then 0 else 1) < 30)) = true := by rfl)
    (hline : (apos.endLine == cpos.line) = true := by rfl) (hs : starEach (e :: es) X.env = (false, eval e X.env) :: starEach es X.env := by rfl) (hplain : (backTo cpos (starEach es X.env)).any (·.1) = false := by rfl) :
    PE X (.Call (.Attribute o name apos) (e :: es) [] cpos) (tBM X.K T r to t) := by
  intro pins s σ H Q I h
  refine wpAny_Call_method_late hbase hfew hline rfl (thn (ho pins s σ H _ I h) fun v s1 ⟨x, H1, I1, r1, ty, q1⟩ => ?_)
  obtain ⟨h1, h2⟩ := tyV_is I1 r1 ty
  refine ⟨T, id, pa, slot, hty, h1, h2, ?_⟩
  have hA := ha cpos pins s1 σ H1 _ I1 q1
  rw [hs] at hA ⊢
  refine Calls.callWith_builtin (by show (false || (backTo cpos (starEach es X.env)).any (·.1)) = false; rw [hplain] <;> rfl) (Calls.evalArgs_plain ?_)
  exact thn hA fun us s2 ⟨vs, H2, I2, r2, q2⟩ => hm pins s2 σ H2 x vs v us Q I2 r1 r2 q2
/- xs.append(e), list.index on a module's tuple .. are MtR facts of 06m -/
end
end L2

namespace L2
open PySem PySem.Spec PyProof.Rows

def MtM (X : Cx) (id : String) (r : V → List V → Hp → VK → Prop) : Prop :=
  ∀ (pins : List (Addr × Obj)) (s : Shared) (σ : St) (H : Hp) (x : V) (xs : List V) (v : Value) (us : List Value) (Q : VK), Inv X pins σ H s → RelV x v → Vals xs us → r x xs H Q →
    wpAny (model X.prog X.w) X.A (call (.builtin id) (v :: us)) (EP X pins σ Q) X.xe s

/-! ### lists of values -/
theorem Vals.one : ∀ {x : V} {us : List Value}, Vals [x] us → ∃ u, us = [u] ∧ RelV x u
  | _, _, .cons r .nil => ⟨_, rfl, r⟩
theorem Vals.two : ∀ {x y : V} {us : List Value}, Vals [x, y] us → ∃ u v, us = [u, v] ∧ RelV x u ∧ RelV y v
  | _, _, _, .cons r (.cons q .nil) => ⟨_, _, rfl, r, q⟩
theorem Vals.zero : ∀ {us : List Value}, Vals [] us → us = []
  | _, .nil => rfl
theorem Vals.dropLast {xs : List V} {us : List Value} (h : Vals xs us) : Vals xs.dropLast us.dropLast := by
  induction h with
  | nil => exact .nil
  | cons r t ih =>
    cases t with
    | nil => exact .nil
    | cons q t' => exact .cons r ih
theorem Vals.eraseIdx : ∀ {xs : List V} {us : List Value} (i : Nat), Vals xs us → Vals (xs.eraseIdx i) (us.eraseIdx i)
  | _, _, _, .nil => .nil
  | _, _, 0, .cons _ t => t
  | _, _, i + 1, .cons r t => .cons r (Vals.eraseIdx i t)
theorem Vals.reverse {xs : List V} {us : List Value} (h : Vals xs us) : Vals xs.reverse us.reverse := by
  induction h with
  | nil => exact .nil
  | cons r t ih => rw [List.reverse_cons, List.reverse_cons]; exact Vals.append ih (.cons r .nil)
theorem Vals.rep {xs : List V} {us : List Value} (h : Vals xs us) : ∀ k : Nat, Vals (List.replicate k xs).flatten (List.replicate k us).flatten
  | 0 => .nil
  | k + 1 => by
    rw [List.replicate_succ, List.replicate_succ, List.flatten_cons, List.flatten_cons]
    exact Vals.append h (Vals.rep h k)
theorem erase_last {α : Type} (l : List α) : l.eraseIdx (l.length - 1) = l.dropLast := by
  induction l with
  | nil => rfl
  | cons a r ih =>
    cases r with
    | nil => rfl
    | cons b r =>
      have e : (a :: b :: r).length - 1 = ((b :: r).length - 1) + 1 := by
        have h1 : (a :: b :: r).length = r.length + 2 := rfl
        have h2 : (b :: r).length = r.length + 1 := rfl
        omega
      rw [e, List.eraseIdx_cons_succ, ih]
      all_goals rfl
theorem len_erase {α : Type} : ∀ (l : List α) (i : Nat), (l.eraseIdx i).length ≤ l.length
  | [], _ => Nat.le_refl _
  | _ :: _, 0 => Nat.le_succ _
  | _ :: r, i + 1 => Nat.succ_le_succ (len_erase r i)
theorem foldl_rep (its : List Value) : ∀ (k : Nat) (acc : List Value),
    List.foldl (fun x1 x2 => x1 ++ x2) acc.toArray (List.replicate k its.toArray) = (acc ++ (List.replicate k its).flatten).toArray
  | 0, acc => by simp
  | k + 1, acc => by
    have e : acc.toArray ++ its.toArray = (acc ++ its).toArray := by simp
    have e2 : (acc ++ its) ++ (List.replicate k its).flatten = acc ++ (List.replicate (k + 1) its).flatten := by
      rw [List.replicate_succ, List.flatten_cons, List.append_assoc]
    rw [← e2, ← foldl_rep its k (acc ++ its), ← e, List.replicate_succ, List.foldl_cons]

section
variable {X : Cx} {pins : List (Addr × Obj)} {σ : St} {H : Hp} {s : Shared} {l b : Addr} {xs ys zs : List V}

/-! ### the two steps: a tracked list is rewritten, a new list is laid -/
theorem Inv.lset {its its' : List Value} {n : Nat} {f : Array Value → Array Value} {t' : Nat} (I : Inv X pins σ H s) (hH : H l = some (.lst xs))
    (e : s.heap.get? l = some { cls := .type "list", data := .seq its.toArray n }) (hf : f its.toArray = its'.toArray) (hv : Vals ys its') (hz : ys.length ≤ sizeLine) :
    Inv X pins σ (upd H l (.lst ys)) { s with heap := s.heap.update l (Obj.mapSeq f), toks := t' } := by
  have q := PySem.IsL.update e f
  rw [hf] at q
  refine I.write (x := l) (e := l) (by rw [hH]; exact trivial) (.inl rfl) (fun b' u hb hu => (Heap.get?_update_other s.heap (Obj.mapSeq f) (Ne.symm hb)).trans hu) ⟨_, q⟩ ?_
  exact ⟨hz, its', _, hv, q⟩
theorem Inv.lnew {its : List Value} {t' : Nat} (I : Inv X pins σ H s) (hv : Vals ys its) (hz : ys.length ≤ sizeLine) :
    Inv X pins σ (upd H s.heap.objs.size (.lst ys)) { s with heap := s.heap.push { cls := .type "list", data := .seq its.toArray }, toks := t' } :=
  I.laid (fun _ _ q => Heap.get?_push_of_some _ q) (Nat.le_refl _) ⟨hz, its, 0, hv, Heap.get?_push_size _ rfl⟩
theorem Inv.fresh (I : Inv X pins σ H s) : H s.heap.objs.size = none := I.hok.fresh (Nat.le_refl _)
theorem Inv.lstM (I : Inv X pins σ H s) (hH : H l = some (.lst xs)) : xs.length ≤ sizeLine ∧ ∃ (its : List Value) (n : Nat), Vals xs its ∧ xs.length = its.length ∧ s.heap.get? l = some { cls := .type "list", data := .seq its.toArray n } := by
  obtain ⟨z, its, n, r, e⟩ := I.hok l _ hH
  exact ⟨z, its, n, r, r.length, e⟩

theorem notLongL {n : Nat} (h : n ≤ sizeLine) : Builtin.List.listTooLong n = false := by
  unfold Builtin.List.listTooLong
  exact decide_eq_false (by omega)
end

section
variable {X : Cx}

/-! ### methods -/
def rAppend : V → List V → Hp → VK → Prop := fun x vs H Q => ∃ l xs y, x = .ref l ∧ vs = [y] ∧ H l = some (.lst xs) ∧ xs.length < sizeLine ∧ Q .non (upd H l (.lst (xs ++ [y])))
theorem mt_append : MtM X "list.append" rAppend := by
  intro pins s σ H x vs v us Q I rx rv h
  obtain ⟨l, xs, y, rfl, rfl, hH, hz, q⟩ := h
  cases rx
  obtain ⟨u, rfl, ru⟩ := rv.one
  obtain ⟨z, its, n, r, hl, e⟩ := I.lstM hH
  refine call_meets F.slot_list_append ⟨_, e, rfl⟩ F.entry_list_append (F.args_list_append_2 _ _) (PySem.list_append l its.toArray n u (by rw [List.size_toArray]; omega)) ⟨e, ?_⟩
  refine ⟨.non, _, I.lset (its' := its ++ [u]) hH e (by simp) (r.append (.cons ru .nil)) ?_, rfl, q⟩
  rw [List.length_append, List.length_singleton]
  omega

def rExtend : V → List V → Hp → VK → Prop := fun x vs H Q => ∃ l b xs zs, x = .ref l ∧ vs = [.ref b] ∧ H l = some (.lst xs) ∧ H b = some (.lst zs) ∧ xs.length + zs.length ≤ sizeLine ∧ Q .non (upd H l (.lst (xs ++ zs)))
theorem mt_extend : MtM X "list.extend" rExtend := by
  intro pins s σ H x vs v us Q I rx rv h
  obtain ⟨l, b, xs, zs, rfl, rfl, hH, hB, hz, q⟩ := h
  cases rx
  obtain ⟨u, rfl, ru⟩ := rv.one
  cases ru
  obtain ⟨z, its, n, r, hl, e⟩ := I.lstM hH
  obtain ⟨z2, its2, n2, r2, hl2, e2⟩ := I.lstM hB
  have hsz : its.toArray.size + its2.toArray.size ≤ sizeLine := by rw [List.size_toArray, List.size_toArray]; omega
  have hlong : ¬ (!its.toArray.isEmpty && Builtin.List.listTooLong (its.toArray.size + its2.toArray.size)) = true := by
    rw [notLongL hsz, Bool.and_false]
    exact Bool.false_ne_true
  refine call_meets F.slot_list_extend ⟨_, e, rfl⟩ F.entry_list_extend (F.args_list_extend_2 _ _)
    (AutoSeq1.list_extend_list_list_0 l its.toArray n b its2.toArray n2 hlong (by rw [List.size_toArray]; omega) (by omega)) ⟨e, e2, ?_⟩
  refine ⟨.non, _, I.lset (its' := its ++ its2) hH e (by simp) (r.append r2) ?_, rfl, q⟩
  rw [List.length_append]
  omega

def rPop : V → List V → Hp → VK → Prop := fun x vs H Q => ∃ l xs y, x = .ref l ∧ vs = [] ∧ H l = some (.lst xs) ∧ xs[xs.length - 1]? = some y ∧ Q y (upd H l (.lst xs.dropLast))
theorem mt_pop : MtM X "list.pop" rPop := by
  intro pins s σ H x vs v us Q I rx rv h
  obtain ⟨l, xs, y, rfl, rfl, hH, hy, q⟩ := h
  cases rx
  have hus := rv.zero
  subst hus
  obtain ⟨z, its, n, r, hl, e⟩ := I.lstM hH
  obtain ⟨u, hu, ru⟩ := r.get hy
  have hy' : its.toArray[its.toArray.size - 1]? = some u := by
    show its.toArray[its.length - 1]? = some u
    rw [← Array.getElem?_toList, ← hl]
    exact hu
  refine call_meets F.slot_list_pop ⟨_, e, rfl⟩ F.entry_list_pop (F.args_list_pop_1 _) (MeetsSeq.list_pop_last l its.toArray n u hy' (by rw [List.size_toArray]; omega)) ⟨e, ?_⟩
  refine ⟨y, _, I.lset (its' := its.dropLast) hH e ?_ r.dropLast ?_, ru, q⟩
  · show its.toArray.eraseIdxIfInBounds (its.toArray.size - 1) = its.dropLast.toArray
    rw [List.size_toArray, List.eraseIdxIfInBounds_toArray, erase_last]
  · rw [List.length_dropLast]
    omega

def rPopAt : V → List V → Hp → VK → Prop := fun x vs H Q => ∃ l xs i k y, x = .ref l ∧ vs = [.int i] ∧ H l = some (.lst xs) ∧ -(2 ^ 63) ≤ i ∧ i < 2 ^ 63 ∧ seqIndex? i xs.length = some k ∧ xs[k]? = some y ∧ Q y (upd H l (.lst (xs.eraseIdx k)))
theorem mt_popAt : MtM X "list.pop" rPopAt := by
  intro pins s σ H x vs v us Q I rx rv h
  obtain ⟨l, xs, i, k, y, rfl, rfl, hH, h1, h2, hk, hy, q⟩ := h
  cases rx
  obtain ⟨u, rfl, ru⟩ := rv.one
  obtain ⟨t, rfl⟩ := ru
  obtain ⟨z, its, n, r, hl, e⟩ := I.lstM hH
  obtain ⟨w, hw, rw'⟩ := r.get hy
  refine call_meets F.slot_list_pop ⟨_, e, rfl⟩ F.entry_list_pop (F.args_list_pop_2 _ _)
    (MeetsSeq.list_pop_at l its.toArray n i t k w (fitsIndex_both h1 h2) (by rw [List.size_toArray, ← hl]; exact hk) (by rw [← Array.getElem?_toList]; exact hw) (by rw [List.size_toArray]; omega)) ⟨e, ?_⟩
  refine ⟨y, _, I.lset (its' := its.eraseIdx k) hH e ?_ (r.eraseIdx k) ?_, rw', q⟩
  · show its.toArray.eraseIdxIfInBounds k = (its.eraseIdx k).toArray
    rw [List.eraseIdxIfInBounds_toArray]
  · have := len_erase xs k
    omega

def rReverse : V → List V → Hp → VK → Prop := fun x vs H Q => ∃ l xs, x = .ref l ∧ vs = [] ∧ H l = some (.lst xs) ∧ Q .non (upd H l (.lst xs.reverse))
theorem mt_reverse : MtM X "list.reverse" rReverse := by
  intro pins s σ H x vs v us Q I rx rv h
  obtain ⟨l, xs, rfl, rfl, hH, q⟩ := h
  cases rx
  have hus := rv.zero
  subst hus
  obtain ⟨z, its, n, r, hl, e⟩ := I.lstM hH
  refine call_meets F.slot_list_reverse ⟨_, e, rfl⟩ F.entry_list_reverse (F.args_list_reverse_1 _) (AutoSeq1.list_reverse_list_0 l its.toArray n (by rw [List.size_toArray]; omega)) ⟨e, ?_⟩
  refine ⟨.non, _, I.lset (its' := its.reverse) hH e (by simp) r.reverse ?_, rfl, q⟩
  rw [List.length_reverse]
  omega

def rClear : V → List V → Hp → VK → Prop := fun x vs H Q => ∃ l xs, x = .ref l ∧ vs = [] ∧ H l = some (.lst xs) ∧ Q .non (upd H l (.lst []))
theorem mt_clear : MtM X "list.clear" rClear := by
  intro pins s σ H x vs v us Q I rx rv h
  obtain ⟨l, xs, rfl, rfl, hH, q⟩ := h
  cases rx
  have hus := rv.zero
  subst hus
  obtain ⟨z, its, n, r, hl, e⟩ := I.lstM hH
  refine call_meets F.slot_list_clear ⟨_, e, rfl⟩ F.entry_list_clear (F.args_list_clear_1 _) (AutoSeq1.list_clear_list_0 l its.toArray n (by rw [List.size_toArray]; omega)) ⟨e, ?_⟩
  exact ⟨.non, _, I.lset (its' := []) (ys := []) hH e rfl .nil (Nat.zero_le _), rfl, q⟩

/-! ### list + list, list += list, list * int -/
def rCat : R2 := fun x y H Q => ∃ l b xs zs, x = .ref l ∧ y = .ref b ∧ H l = some (.lst xs) ∧ H b = some (.lst zs) ∧ xs.length + zs.length ≤ sizeLine ∧ ∀ p, H p = none → Q (.ref p) (upd H p (.lst (xs ++ zs)))
theorem op_cat : OpR X (binaryOp .Add) rCat := by
  intro pins s σ H x y v u Q I rx ry h
  obtain ⟨l, b, xs, zs, rfl, rfl, hH, hB, hz, q⟩ := h
  cases rx
  cases ry
  obtain ⟨z, its, n, r, hl, e⟩ := I.lstM hH
  obtain ⟨z2, its2, n2, r2, hl2, e2⟩ := I.lstM hB
  refine PySem.P.add_list e e2 ?_ (by rw [List.size_toArray, List.size_toArray]; omega)
  have ea : its.toArray ++ its2.toArray = (its ++ its2).toArray := by simp
  rw [ea]
  exact ⟨.ref _, _, I.lnew (t' := s.toks) (r.append r2) (by rw [List.length_append]; omega), rfl, q _ I.fresh⟩
/-- a list times an int (a negative one is nothing) -/
def rRep : R2 := fun x y H Q => ∃ l k xs, x = .ref l ∧ y = .int k ∧ H l = some (.lst xs) ∧ -(2 ^ 63) ≤ k ∧ k < 2 ^ 63 ∧ xs.length * k.toNat ≤ sizeLine ∧
  ∀ p, H p = none → Q (.ref p) (upd H p (.lst (List.replicate k.toNat xs).flatten))
theorem len_rep {α : Type} (xs : List α) (k : Nat) : (List.replicate k xs).flatten.length = k * xs.length := by
  induction k with
  | zero => simp
  | succ k ih => rw [List.replicate_succ, List.flatten_cons, List.length_append, ih, Nat.succ_mul, Nat.add_comm]
theorem op_rep : OpR X (binaryOp .Mult) rRep := by
  intro pins s σ H x y v u Q I rx ry h
  obtain ⟨l, k, xs, rfl, rfl, hH, h1, h2, hz, q⟩ := h
  cases rx
  obtain ⟨t, rfl⟩ := ry
  obtain ⟨z, its, n, r, hl, e⟩ := I.lstM hH
  have hlen : its.toArray.size * k.toNat ≤ sizeLine := by rw [List.size_toArray, ← hl]; exact hz
  have hcap : ¬ its.toArray.size * k.toNat > (2 ^ 63 - 1) / 8 := by
    have : (sizeLine : Nat) ≤ (2 ^ 63 - 1) / 8 := by decide
    omega
  have hfit : ¬ (!Builtin.List.listFitsIndex k) = true := by
    rw [fitsIndex_both h1 h2]
    exact Bool.false_ne_true
  have hlong : ¬ Builtin.List.listTooLong (its.toArray.size * k.toNat) = true := by
    rw [notLongL hlen]
    exact Bool.false_ne_true
  have hnew : List.foldl (fun x1 x2 => x1 ++ x2) #[] (List.replicate (if its.toArray.isEmpty = true then 0 else k.toNat) its.toArray) = (List.replicate k.toNat its).flatten.toArray := by
    have f0 : ∀ m : Nat, List.foldl (fun x1 x2 => x1 ++ x2) #[] (List.replicate m its.toArray) = (List.replicate m its).flatten.toArray := fun m => by
      have := foldl_rep its m []
      rw [List.nil_append] at this
      exact this
    rw [f0]
    cases its with
    | nil => simp
    | cons a r' => rw [if_neg (by simp)]
  refine wpAny_binaryOp_repeat_ref (T := "list") (U := "int") (by decide) ⟨_, e, rfl⟩ (fun s' => typeIs_int s' k t) noFill_list_mul F.fills_int_mul F.slot_int_rmul repeat_list F.slot_int_index.lookup
    (call_meets F.slot_int_rmul (typeIs_int s k t) F.entry_int_rmul (F.args_int_rmul_2 _ _) (int___rmul___int_list k t l its.toArray n)
      ⟨e, rfl, ⟨_, e, rfl⟩, call_meets F.slot_list_mul ⟨_, e, rfl⟩ F.entry_list_mul (F.args_list_mul_2 _ _) (AutoListH.list___mul___list_int_3 l its.toArray n k t hfit hcap hlong) ⟨e, ?_⟩⟩)
  rw [hnew]
  exact ⟨.ref _, _, I.lnew (t' := s.toks) (r.rep k.toNat) (by rw [len_rep, Nat.mul_comm]; exact hz), rfl, q _ I.fresh⟩

/-! ### del xs[i] -/
theorem del_list {pins : List (Addr × Obj)} {s : Shared} {σ : St} {H : Hp} {l : Addr} {xs : List V} {i : Int} {t : Tok} {k : Nat} {Q : Unit → Shared → Prop} (I : Inv X pins σ H s) (hH : H l = some (.lst xs))
    (h1 : -(2 ^ 63) ≤ i) (h2 : i < 2 ^ 63) (hk : seqIndex? i xs.length = some k) (h : ∀ s', Inv X pins σ (upd H l (.lst (xs.eraseIdx k))) s' → Q () s') :
    wpAny (model X.prog X.w) X.A (delItem (.ref l) (.int i t)) Q X.xe s := by
  obtain ⟨z, its, n, r, hl, e⟩ := I.lstM hH
  refine PySem.P.delItem_list (k := k) e (fitsIndex_both h1 h2) (by rw [List.size_toArray, ← hl]; exact hk) (h _ ?_) (by rw [List.size_toArray]; omega)
  refine I.lset (its' := its.eraseIdx k) (t' := s.toks) hH e ?_ (r.eraseIdx k) ?_
  · show its.toArray.eraseIdxIfInBounds k = (its.eraseIdx k).toArray
    rw [List.eraseIdxIfInBounds_toArray]
  · have := len_erase xs k
    omega
end

/-! ### xs[a:b] = ys -/
section
variable {prog : Program} {w : World} {A : Around} {E : Value → Shared → Prop} {s : Shared}
theorem splice_eq (its its2 : List Value) (a c : Nat) : its.toArray.extract 0 a ++ its2.toArray ++ its.toArray.extract c its.toArray.size = (its.take a ++ its2 ++ its.drop c).toArray := by
  apply Array.toList_inj.mp
  first
    | (simp
       exact List.take_of_length_le (by simp))
    | simp [List.take_of_length_le]
    | simp
theorem bounds_run {a c n : Nat} (hac : a ≤ c) (hc : c ≤ n) : sliceBounds (some (a : Int)) (some (c : Int)) none n = ((a : Int), (c : Int), 1) := by
  simp only [sliceBounds, Option.getD_none]
  have h1 : ¬ ((a : Int) < 0) := by omega
  have h2 : ¬ ((c : Int) < 0) := by omega
  simp only [h1, h2, if_false, show (1 : Int) > 0 by decide, if_true]
  congr 1
  · omega
  · congr 1; omega
set_option maxRecDepth 100000 in
/-- list.__setitem__ with a slice of step one and another list -/
theorem setItem_slice {l b sl : Addr} {items new : Array Value} {n n2 : Nat} {vl vu : Value} {a c : Nat} {Q : Unit → Shared → Prop}
    (e : s.heap.get? l = some { cls := .type "list", data := .seq items n }) (e2 : s.heap.get? b = some { cls := .type "list", data := .seq new n2 }) (hne : l ≠ b)
    (hs : s.heap.IsSliceOf sl vl vu .none) (pl : IsPart vl (some (a : Int))) (pu : IsPart vu (some (c : Int))) (hac : a ≤ c) (hc : c ≤ items.size)
    (hsz : items.size + new.size ≤ sizeLine) (h : Q () { s with heap := s.heap.update l (Obj.mapSeq fun xs => xs.extract 0 a ++ new ++ xs.extract c xs.size) }) :
    wpAny (model prog w) A (setItem (.ref l) (.ref sl) (.ref b)) Q E s := by
  have hl : s.heap.IsList l items := PySem.IsL.isList e
  have hb : s.heap.IsList b new := PySem.IsL.isList e2
  obtain ⟨os, hos, hcs, hds⟩ := id hs
  have hTs : s.TypeIs (.ref sl) "slice" := ⟨os, hos, hcs⟩
  have hstep : ¬ ((rawPart none == rawInt 0) = true) := Bool.false_ne_true
  have hsame : Builtin.List.listSameRef (.ref l) (.ref b) = false := by
    unfold Builtin.List.listSameRef
    exact beq_eq_false_iff_ne.mpr hne
  have hmax : (max (a : Int) (c : Int)).toNat = c := by omega
  have hz' : ((fun xs : Array Value => xs.extract 0 a ++ new ++ xs.extract c xs.size) items).size ≤ sizeLine + 1 := by
    simp only [Array.size_append, Array.size_extract]
    omega
  unfold setItem
  try with_reducible refine wpAny_holding ?_
  first | refine wpAny_bind (wpAny_pure ?_) | skip
  refine wpAny_bind (wpAny_sequenceKey hl.typeIs (by decide) ?_)
  refine wpAny_bind (wpAny_callSpecial?_slot (name := Str.ofString "__setitem__") hl.typeIs slot_list_setitem
    (wpAny_call_entry slot_list_setitem hl.typeIs entry_list_setitem ?_ (args_list_setitem _ _ _)))
  show wpAny _ _ (Builtin.List.listSubscript? (.ref sl) >>= _) _ _ s
  refine wpAny_bind ?_
  unfold Builtin.List.listSubscript?
  refine wpAny_bind (wpAny_specialOf hTs slice_no_index ?_)
  simp only [Option.isNone_none, if_true]
  refine wpAny_pure ?_
  show wpAny _ _ (typeOf (.ref sl) >>= _) _ _ s
  refine wpAny_bind (wpAny_typeOf hTs ?_)
  first
    | rw [if_neg (by decide)]
    | refine PySem.W.KFB.if_not (by decide) ?_
  rw [listSliceParts_eq]
  refine wpAny_bind (wpAny_bind (wpAny_field hos hds (x := .none) rfl (wpAny_bind (wpAny_listPart .none ?_))))
  rw [if_neg hstep]
  refine wpAny_bind (wpAny_field hos hds (x := vl) rfl (wpAny_bind (wpAny_listPart pl ?_)))
  refine wpAny_bind (wpAny_field hos hds (x := vu) rfl (wpAny_bind (wpAny_listPart pu (wpAny_pure ?_))))
  first
    | simp only [hsame, Bool.false_eq_true, if_false]
    | refine PySem.W.KFB.if_not hsame ?_
    | (dsimp only
       rw [if_neg (by rw [hsame]; exact Bool.false_ne_true)])
  refine wpAny_bind (m := Builtin.List.listAllItems (.ref b) "must assign iterable to extended slice") ?_
  unfold Builtin.List.listAllItems
  refine wpAny_bind (wpAny_typeOf hb.typeIs ?_)
  first
    | refine PySem.W.KFB.if_so (by decide) ?_
    | rw [if_pos (by decide)]
    | simp only [beq_self_eq_true, Bool.true_or, if_true]
  unfold Builtin.List.listItems
  refine wpAny_bind (wpAny_seqItems e2 rfl (wpAny_pure ?_))
  refine wpAny_bind (wpAny_bind (wpAny_seqItems e rfl (wpAny_pure ?_)))
  refine wpAny_bind (wpAny_of_eq ((sliceIndices_raw (some (a : Int)) (some (c : Int)) none items.size (by simp)).trans (congrArg (pure : Int × Int × Int → Sem (Int × Int × Int)) (bounds_run hac hc))) ?_)
  show wpAny _ _ (if ((1 : Int) == 1) = true then _ else _) _ _ s
  rw [if_pos (by decide)]
  refine wpAny_bind (wpAny_rule ?_)
  first
    | simp only [notLongL hsz, Bool.false_eq_true, if_false]
    | refine PySem.W.KFB.if_not (notLongL hsz) ?_
  first | refine wpAny_bind (wpAny_pure ?_) | skip
  show wpAny _ _ (updateSeq l (fun xs => xs.extract 0 ((a : Int)).toNat ++ new ++ xs.extract (max (a : Int) (c : Int)).toNat xs.size) >>= _) _ _ s
  rw [hmax, Int.toNat_natCast]
  refine wpAny_bind (wpAny_updateSeq (hz := Nat.le_trans (Nat.le_add_right _ _) hsz) (_hz' := hz') e rfl ?_)
  refine wpAny_bind (wpAny_letGo ?_)
  first
    | exact wpAny_bind (wpAny_pure (wpAny_pure ⟨.none, rfl, wpAny_pure h⟩))
    | exact wpAny_pure ⟨.none, rfl, wpAny_pure h⟩
end

section
variable {X : Cx}
/-- xs[a:c] = ys of another list, at the value level: sl is the slice object that was just made -/
theorem set_slice {pins : List (Addr × Obj)} {s : Shared} {σ : St} {H : Hp} {l b sl : Addr} {xs ys : List V} {a c : Int} {vl vu : Value} {Q : Unit → Shared → Prop} (I : Inv X pins σ H s)
    (hH : H l = some (.lst xs)) (hB : H b = some (.lst ys)) (hne : l ≠ b) (hs : s.heap.IsSliceOf sl vl vu .none) (ra : RelV (.int a) vl) (rc : RelV (.int c) vu) (h0 : 0 ≤ a) (hac : a ≤ c) (hc : c ≤ xs.length)
    (hz : xs.length + ys.length ≤ sizeLine) (h : ∀ s', Inv X pins σ (upd H l (.lst (xs.take a.toNat ++ ys ++ xs.drop c.toNat))) s' → Q () s') :
    wpAny (model X.prog X.w) X.A (setItem (.ref l) (.ref sl) (.ref b)) Q X.xe s := by
  obtain ⟨ta, rfl⟩ := ra
  obtain ⟨tc, rfl⟩ := rc
  obtain ⟨z, its, n, r, hl, e⟩ := I.lstM hH
  obtain ⟨z2, its2, n2, r2, hl2, e2⟩ := I.lstM hB
  obtain ⟨a', rfl⟩ := Int.eq_ofNat_of_zero_le h0
  obtain ⟨c', rfl⟩ := Int.eq_ofNat_of_zero_le (Int.le_trans h0 hac)
  simp only [Int.toNat_natCast] at h
  refine setItem_slice (a := a') (c := c') e e2 hne hs (.int _ _) (.int _ _) (by omega) (by rw [List.size_toArray]; omega) (by rw [List.size_toArray, List.size_toArray]; omega) (h _ ?_)
  refine I.lset (its' := its.take a' ++ its2 ++ its.drop c') (t' := s.toks) hH e ?_ (Vals.append (Vals.append (r.take _) r2) (r.drop _)) ?_
  · exact splice_eq its its2 a' c'
  · rw [List.length_append, List.length_append, List.length_take, List.length_drop]
    omega
end
end L2

namespace Att
open PySem PySem.W PySem.Calls PyProof.Rows

/-! ### the script -/
theorem ints_of_wellAll {P : Params} {h : Heap} : ∀ (ns : List Int) (vs : List Value), WellAll P h vs (ns.map WData.int) → IntsAre vs ns := by
  intro ns
  induction ns with
  | nil =>
    intro vs w
    rw [List.map_nil] at w
    cases w
    exact .nil
  | cons n ns ih =>
    intro vs w
    rw [List.map_cons] at w
    cases w with
    | cons a b =>
      cases a
      exact .cons _ _ (ih _ b)

theorem script_of {l : OpenLaw} {n : Nat} (hn : l.most = some n) {P : Params} {h : Heap} {args : List WData} {vals : List Value}
    (hpre : l.row.toRowW.claim.pre args = true) (hwl : WellAll P h vals args) :
    ∃ a vs ns, vals = [Value.ref a] ∧ args = [WData.list (ns.map WData.int)] ∧ h.get? a = some { cls := .type "list", data := .seq vs.toArray } ∧ IntsAre vs ns ∧ ns.length ≤ n := by
  have hsh : WShape.hasAll [] args [.list .int] = true := (pre_splitW hpre).1
  have hc : l.pre.holds [] { args := args } = true := (pre_splitW hpre).2
  obtain ⟨d, r, rfl, h1, h2⟩ := hasAllW_cons hsh
  obtain rfl := hasAllW_nil h2
  obtain ⟨xs, rfl, h3⟩ := hasW_list h1
  obtain ⟨ns, rfl⟩ := items_int h3
  have hlen : ns.length ≤ n := by
    unfold OpenLaw.pre at hc
    have h4 : (WTm.not (.lt (.lit (.int (n : Int))) (.len (.arg 0)))).holds [] { args := [.list (ns.map .int)] } = true := by
      have h4 := (holds_andW hc).1
      rw [hn] at h4
      exact h4
    have h5 := condW_of h4 (w_not (w_lt w_lit (w_len_list (w_arg rfl))))
    rw [List.length_map] at h5
    refine Nat.le_of_not_lt fun q => ?_
    have q' : (n : Int) < ((ns.length : Nat) : Int) := by omega
    first
      | (rw [decide_eq_true q'] at h5; exact absurd h5 (by decide))
      | (simp at h5; omega)
  cases hwl with
  | cons w1 w2 =>
    cases w2
    cases w1 with
    | list ho hall => exact ⟨_, _, ns, rfl, rfl, ho, ints_of_wellAll ns _ hall, hlen⟩

theorem post_true (l : OpenLaw) (args : List WData) : l.row.toRowW.claim.post args (.bool true) args = true :=
  postW_of (r := l.row.toRowW) (X := (true == true))
    (show WShape.has [] (.bool true) .bool = true by first | rfl | decide | simp [WShape.has, WShape.arms, WShape.armsAll])
    (show (WTm.eq .res (.lit (.bool true))).value [] { args := args, res := some (.bool true), after := args } = some (.bool (true == true)) from w_eq_bool (w_res rfl) w_lit) rfl

/-! ### the attachment: holds_open's last premise (the goal 'hc' behind k_head) from a wpAny of the law's body -/
theorem attach {l : OpenLaw} {n : Nat} {q : Program} {loose : List Str} {XP : (Str → Option Value) → Heap → Prop} {YP : World → Heap → Prop} {d : DefRec} {x : Str}
    (hn : l.most = some n) (hdf : d.params.defaults = [])
    (hbind : ∀ pm cd doc v : Value, bindArgs (docDef d.name d.params d.body d.scope pm cd doc) ⟨[v], []⟩ = pure [(x, v)])
    (hx : d.scope.names.lookup x = some .local ∨ d.scope.names.lookup x = some .cell)
    (hk : d.scope.kind = .function) (hco : d.scope.isCoroutine = false) (hgen : d.scope.isGenerator = false)
    (body : ∀ (w : World) (s₀ s₁ s : Shared) (mg mb : Str → Option Value) (fa : Addr) (o : Obj) (pm cd doc : Value) (a : Addr) (vs : List Value) (ns : List Int),
      Ground q loose [] XP w s₀ mg mb s₁.heap → YP w s₁.heap →
      s₁.heap.get? fa = some o → o.data = .func (docDef d.name d.params d.body d.scope pm cd doc) → s₁.heap.CodeRec cd d.name → mg d.name = some (.ref fa) →
      s₁.heap.get? a = some { cls := .type "list", data := .seq vs.toArray } → IntsAre vs ns → ns.length ≤ n →
      s.gens = #[] → s.os = s₁.os →
      Fr s₁.heap s₁.heap.objs.size s.heap (bindL (envOfC d.name d.scope s₁.heap.objs.size fa cd).kindOf [(x, .ref a)] fun _ => none) →
      Cl s₁.heap.objs.size (cellsFrom (s₁.heap.objs.size + 1) d.scope.names []) s.heap (bindC (envOfC d.name d.scope s₁.heap.objs.size fa cd).kindOf [(x, .ref a)] fun _ => none) →
      wpAny (model l.prog w) (callerA.deeper (envOfC d.name d.scope s₁.heap.objs.size fa cd)) (execs d.body (envOfC d.name d.scope s₁.heap.objs.size fa cd))
        (fun f s' => f = .ret (.bool true) ∧ OldK s₁.heap s'.heap ∧ s'.os = s₁.os ∧ AllBare s'.gens) (fun _ _ => False) s) :
    WalkO q loose XP YP l.row.toRowW d [] (fun f vs => PySem.call f vs) := by
  intro w s₀ s₁ mg mb G Y fa o pm cd doc dV kV ho hd hcd hD hmg hg args vals as hpre hlay hrd hwl hlo
  obtain rfl : dV = .none := Dflts.none hD hdf
  obtain rfl : kV = .none := Dflts.noKw hD
  obtain ⟨a, vs, ns, rfl, rfl, hobj, hints, hlen⟩ := script_of hn hpre hwl
  refine enter_call ?_
  refine call_cells_ret (o := o) (by rw [depth_caller]; decide) ho (fd_plain hd) G.T.nolimit hcd (hbind pm cd doc (.ref a)) (fun y hy => ?_) (fun h₁ tk F X => ?_) hco hgen hk
  · obtain rfl : y = (x, Value.ref a) := List.mem_singleton.mp hy
    rcases hx with e | e
    · exact .inl e
    · exact .inr ⟨e, cellsFrom_some _ _ _ (.inl e)⟩
  · refine wpAny_mono (body w s₀ s₁ { s₁ with heap := h₁, toks := tk } mg mb fa o pm cd doc a vs ns G Y ho (fd_plain hd) hcd hmg hobj hints hlen hg rfl F X) (fun f s' hq => ?_) (fun _ _ hq => hq)
    obtain ⟨rfl, h2, h3, h4⟩ := hq
    exact ⟨.inl ⟨.bool true, .bool true, [], rfl, fun _ => rfl, .bool true, post_true l _, fun _ => ⟨List.Pairwise.nil, fun _ hm => (nomatch hm)⟩⟩, h2, h3, h4⟩

/-- the same from a codeAny of the CALL (for a layer whose function contracts speak of calls) -/
theorem attach_call {l : OpenLaw} {n : Nat} {q : Program} {loose : List Str} {XP : (Str → Option Value) → Heap → Prop} {YP : World → Heap → Prop} {d : DefRec}
    (hn : l.most = some n) (hdf : d.params.defaults = [])
    (call : ∀ (w : World) (s₀ s₁ : Shared) (mg mb : Str → Option Value) (fa : Addr) (o : Obj) (pm cd doc : Value) (a : Addr) (vs : List Value) (ns : List Int),
      Ground q loose [] XP w s₀ mg mb s₁.heap → YP w s₁.heap →
      s₁.heap.get? fa = some o → o.data = .func (docDef d.name d.params d.body d.scope pm cd doc) → s₁.heap.CodeRec cd d.name → mg d.name = some (.ref fa) →
      s₁.heap.get? a = some { cls := .type "list", data := .seq vs.toArray } → IntsAre vs ns → ns.length ≤ n → s₁.gens = #[] →
      codeAny (model l.prog w) callerA (.call (.ref fa) ⟨[.ref a], []⟩) (fun r s' => r = .ok (.ret (.bool true)) ∧ OldK s₁.heap s'.heap ∧ s'.os = s₁.os ∧ AllBare s'.gens) s₁) :
    WalkO q loose XP YP l.row.toRowW d [] (fun f vs => PySem.call f vs) := by
  intro w s₀ s₁ mg mb G Y fa o pm cd doc dV kV ho hd hcd hD hmg hg args vals as hpre hlay hrd hwl hlo
  obtain rfl : dV = .none := Dflts.none hD hdf
  obtain rfl : kV = .none := Dflts.noKw hD
  obtain ⟨a, vs, ns, rfl, rfl, hobj, hints, hlen⟩ := script_of hn hpre hwl
  refine enter_call (codeAny_mono (call w s₀ s₁ mg mb fa o pm cd doc a vs ns G Y ho (fd_plain hd) hcd hmg hobj hints hlen hg) fun r s' hq => ?_)
  obtain ⟨rfl, h2, h3, h4⟩ := hq
  exact ⟨.inl ⟨.bool true, .bool true, [], rfl, fun _ => rfl, .bool true, post_true l _, fun _ => ⟨List.Pairwise.nil, fun _ hm => (nomatch hm)⟩⟩, h2, h3, h4⟩

/-- the same where the top left finished generators (o_head chose holds_openN): nothing may have changed at all and no generator may be left -/
theorem attachN {l : OpenLaw} {n : Nat} {q : Program} {loose : List Str} {XP : (Str → Option Value) → Heap → Prop} {YP : World → Heap → Prop} {d : DefRec} {x : Str}
    (hn : l.most = some n) (hdf : d.params.defaults = [])
    (hbind : ∀ pm cd doc v : Value, bindArgs (docDef d.name d.params d.body d.scope pm cd doc) ⟨[v], []⟩ = pure [(x, v)])
    (hx : d.scope.names.lookup x = some .local ∨ d.scope.names.lookup x = some .cell)
    (hk : d.scope.kind = .function) (hco : d.scope.isCoroutine = false) (hgen : d.scope.isGenerator = false)
    (body : ∀ (w : World) (s₀ s₁ s : Shared) (mg mb : Str → Option Value) (fa : Addr) (o : Obj) (pm cd doc : Value) (a : Addr) (vs : List Value) (ns : List Int),
      Ground q loose [] XP w s₀ mg mb s₁.heap → YP w s₁.heap →
      s₁.heap.get? fa = some o → o.data = .func (docDef d.name d.params d.body d.scope pm cd doc) → s₁.heap.CodeRec cd d.name → mg d.name = some (.ref fa) →
      s₁.heap.get? a = some { cls := .type "list", data := .seq vs.toArray } → IntsAre vs ns → ns.length ≤ n →
      s.gens = #[] → s.os = s₁.os →
      Fr s₁.heap s₁.heap.objs.size s.heap (bindL (envOfC d.name d.scope s₁.heap.objs.size fa cd).kindOf [(x, .ref a)] fun _ => none) →
      Cl s₁.heap.objs.size (cellsFrom (s₁.heap.objs.size + 1) d.scope.names []) s.heap (bindC (envOfC d.name d.scope s₁.heap.objs.size fa cd).kindOf [(x, .ref a)] fun _ => none) →
      wpAny (model l.prog w) (callerA.deeper (envOfC d.name d.scope s₁.heap.objs.size fa cd)) (execs d.body (envOfC d.name d.scope s₁.heap.objs.size fa cd))
        (fun f s' => f = .ret (.bool true) ∧ (∀ b o, s₁.heap.get? b = some o → s'.heap.get? b = some o) ∧ s'.os = s₁.os ∧ s'.gens = #[]) (fun _ _ => False) s) :
    WalkN q loose XP YP l.row.toRowW d [] (fun f vs => PySem.call f vs) := by
  intro w s₀ s₁ mg mb G Y fa o pm cd doc dV kV ho hd hcd hD hmg hg args vals as hpre hlay hrd hwl hlo
  obtain rfl : dV = .none := Dflts.none hD hdf
  obtain rfl : kV = .none := Dflts.noKw hD
  obtain ⟨a, vs, ns, rfl, rfl, hobj, hints, hlen⟩ := script_of hn hpre hwl
  refine enter_callW ?_
  refine call_cells_ret (o := o) (by rw [depth_caller]; decide) ho (fd_plain hd) G.T.nolimit hcd (hbind pm cd doc (.ref a)) (fun y hy => ?_) (fun h₁ tk F X => ?_) hco hgen hk
  · obtain rfl : y = (x, Value.ref a) := List.mem_singleton.mp hy
    rcases hx with e | e
    · exact .inl e
    · exact .inr ⟨e, cellsFrom_some _ _ _ (.inl e)⟩
  · refine wpAny_mono (body w s₀ s₁ { s₁ with heap := h₁, toks := tk } mg mb fa o pm cd doc a vs ns G Y ho (fd_plain hd) hcd hmg hobj hints hlen hg rfl F X) (fun f s' hq => ?_) (fun _ _ hq => hq)
    obtain ⟨rfl, h2, h3, h4⟩ := hq
    exact ⟨.inl ⟨.bool true, .bool true, [], rfl, fun _ => rfl, .bool true, post_true l _, fun _ => ⟨List.Pairwise.nil, fun _ hm => (nomatch hm)⟩⟩, h2, h3, h4⟩

/-! ### rules over ANY heap (no ledger) from facts about the written part K: the library's own take a ledger (News) for what they write -/
section
variable {prog : Program} {w : World} {A : Around} {E : Value → Shared → Prop} {s : Shared} {K : Frag}

/-- a def of the module, or a method (qual 'C.m'), entered: the frame is the next address; cells behind it -/
theorem call_fn {R : Result → Shared → Prop} {name qual : Str} {params : Arguments} {body : List Stmt} {scope : Scope} {dV kV doc pm cdv ct oc : Value} {an od : Option Addr} {osl : Array (Option Value)} {f : Addr} {args : Args} {binds : List (Str × Value)}
    (X : K.In s.heap) (hlim : s.heap.NoLimit) (ho : K.lookup f = some ⟨oc, od, .func (fnOf name qual params body scope dV kV doc pm an cdv ct), osl⟩) (hcd : codeIn K cdv qual = true) (hroom : A.depth < recursionLimit)
    (hbind : BindsTo s (fnOf name qual params body scope dV kV doc pm an cdv ct) args binds)
    (hkind : (binds.all fun y => scope.names.lookup y.1 == some .local || scope.names.lookup y.1 == some .cell) = true)
    (h : ∀ s₁, InCallC s s.heap.objs.size (bindL (envOfC qual scope s.heap.objs.size f cdv).kindOf binds fun _ => none) (cellsFrom (s.heap.objs.size + 1) scope.names [])
        (bindC (envOfC qual scope s.heap.objs.size f cdv).kindOf binds fun _ => none) s₁ →
      wpAny (model prog w) (A.deeper (envOfC qual scope s.heap.objs.size f cdv)) (execs body (envOfC qual scope s.heap.objs.size f cdv))
        (fun fl s' => R (.ok (.ret (match fl with | .ret v => v | _ => .none))) s')
        (fun e s' => wpAny (model prog w) (A.deeper (envOfC qual scope s.heap.objs.size f cdv)) (leaving (envOfC qual scope s.heap.objs.size f cdv) e) (fun _ s'' => R (.error e) s'') (fun e' s'' => R (.error e') s'') s') s₁)
    (hco : scope.isCoroutine = false) (hgen : scope.isGenerator = false) (hk : scope.kind = .function) : codeAny (model prog w) A (.call (.ref f) args) R s := by
  refine codeAny_call_function hroom (X _ _ ho) rfl hco hgen rfl (codeRec_of X hcd) (hbind _ _ _ _ ?_)
  refine wpAny_newFunctionEnv_cells hk (kindsX hkind _) fun env he s₁ x => ?_
  subst he
  exact ⟨hlim.keeps x.toInCall.keep, codeAny_func (h s₁ x)⟩

/-- C(..): dict at size, instance at size + 1, then __init__ -/
theorem make_obj {R : Result → Shared → Prop} {C fI : Addr} {rest : List Value} {kw : List (Str × Value)}
    (X : K.In s.heap) (hm : makesIn K C = true) (hi : findIn K (.ref C) "__init__" = some (some (.ref fI))) (hf : isFn K (.ref fI) = true)
    (h : codeAny (model prog w) (A.under (.builtin "type.__call__" ⟨.ref C :: rest, kw⟩)) (.call (.ref fI) ⟨.ref (s.heap.objs.size + 1) :: rest, kw⟩) (InitBack (s.heap.objs.size + 1) R)
      { s with heap := (s.heap.push emptyDict).push (instObj C s.heap.objs.size) }) : codeAny (model prog w) A (.call (.ref C) ⟨rest, kw⟩) R s := by
  obtain ⟨hh, g, d, t, os⟩ := s
  exact make_core (makes_of X hm) (looks_findIn X hi) (fun self => bind_fn X self (beq_iff_eq.mp hf)) (.inl rfl) h

/-- x.name where the instance's dict holds the name and the class does not -/
theorem get_field {x C : Addr} {ox : Obj} {es : List DictEntry} {n : Nat} {name : Str} {expr : Bool} {v : Value} {Q : Value → Shared → Prop}
    (X : K.In s.heap) (I : PySem.W.InstAt s.heap x ox C (some (dictOf es n))) (hg : plainGet K C name = true) (hh : hasDictIn K C = true) (ha : findIn K (.ref C) name = some none)
    (hl : getL name es = some (some v)) (hv : handedIn v = true) (h : Q v { s with toks := s.toks + 1 }) : wpAny (model prog w) A (getAttr (.ref x) name expr) Q E s :=
  get_value X I (plainGet_of hg).1 (findObj_own hh ha rfl hl) hv h

/-- x.m(..): the method found in the class -/
theorem get_method {x C f : Addr} {ox : Obj} {es : List DictEntry} {n : Nat} {name : Str} {pl : Sem Bool} {Q : Value × List Value → Shared → Prop}
    (X : K.In s.heap) (I : PySem.W.InstAt s.heap x ox C (some (dictOf es n))) (hg : plainGet K C name = true) (hf : findIn K (.ref C) name = some (some (.ref f))) (ht : isFn K (.ref f) = true)
    (hl : getL name es = some none) (h : Q (.ref f, [.ref x]) s) : wpAny (model prog w) A (getMethod (.ref x) name pl) Q E s :=
  method_fn X I (plainGet_of hg).1 (plainGet_of hg).2 hf (beq_iff_eq.mp ht) (by show (lookIn name (dictOf es n)).map _ = _; rw [lookIn_dict, hl]; rfl) h

/-! the whole heap as the ledger: makes every rule that writes through a ledger a rule over any heap -/
def noObjs (h : Heap) : Heap := { h with objs := #[] }
theorem noObjs_get (h : Heap) (b : Addr) : (noObjs h).get? b = none := by
  cases e : (noObjs h).get? b with
  | none => rfl
  | some o => exact absurd (Heap.lt_size e) (Nat.not_lt_zero _)
def ledger (h : Heap) (L d : Addr) : List (Addr × Obj) := (List.range h.objs.size).filterMap fun a => if a = L ∨ a = d then none else (h.get? a).map fun o => (a, o)
theorem mem_ledger {h : Heap} {L d a : Addr} {o : Obj} : (a, o) ∈ ledger h L d ↔ a ≠ L ∧ a ≠ d ∧ h.get? a = some o := by
  unfold ledger
  rw [List.mem_filterMap]
  constructor
  · rintro ⟨b, _, e⟩
    split at e
    · cases e
    · rename_i hb
      obtain ⟨o', ho, e'⟩ := Option.map_eq_some_iff.mp e
      cases e'
      exact ⟨fun q => hb (.inl q), fun q => hb (.inr q), ho⟩
  · rintro ⟨n1, n2, ho⟩
    refine ⟨a, List.mem_range.mpr (Heap.lt_size ho), ?_⟩
    rw [if_neg (show ¬ (a = L ∨ a = d) from fun q => q.elim n1 n2), ho] <;> rfl
theorem news_ledger {h : Heap} {L d : Addr} {od : Obj} (hne : d ≠ L) (ho : h.get? d = some od) : News (noObjs h) L h ([] ++ (d, od) :: ledger h L d) := by
  rintro ⟨a, o⟩ hp
  rcases List.mem_cons.mp hp with e | hp
  · cases e
    exact ⟨ho, hne, noObjs_get _ _⟩
  · obtain ⟨n1, n2, e⟩ := mem_ledger.mp hp
    exact ⟨e, n1, noObjs_get _ _⟩
theorem fr_all {h : Heap} {L : Addr} {m : Str → Option Value} (n : h.Ns L m) : Fr (noObjs h) L h m :=
  ⟨n, fun b o e => (by rw [noObjs_get] at e; cases e), Nat.zero_le _⟩
/-- Upd of the head entry (for append_K, setItem_K ..) -/
theorem upd_ledger {h : Heap} {L d : Addr} {o o' : Obj} : Upd d o o' ((d, o) :: ledger h L d) ((d, o') :: ledger h L d) :=
  .head fun ⟨_, _⟩ hp => (mem_ledger.mp hp).2.1

/-- x.name = v over any heap: L is any namespace of the heap (the frame's, say): its map stays, its object is not told; all else but the dict stays -/
theorem set_field {x C dx L : Addr} {ox : Obj} {m : Str → Option Value} {es es' : List DictEntry} {n n' : Nat} {name : Str} {v : Value} {Q : Unit → Shared → Prop}
    (X : K.In s.heap) (I : PySem.W.InstAt s.heap x ox C (some (dictOf es n))) (hd : ox.dict = some dx) (hL : s.heap.Ns L m) (hne : dx ≠ L)
    (hs : findIn K (.ref C) "__setattr__" = some (some (.builtin "object.__setattr__"))) (hp : plainOver K C = true) (ht : takerIn K C name = some none) (hh : hasDictIn K C = true) (hl : (getL name es).isSome = true)
    (e : (putL name (PyData.keyHash w.params name) (.str name (s.toks + 1)) v es, putN name es n) = (es', n')) (hz : es'.length ≤ 1000)
    (h : ∀ h' : Heap, h'.Ns L m → h'.get? dx = some (dictOf es' n') → (∀ b o, b ≠ dx → b ≠ L → s.heap.get? b = some o → h'.get? b = some o) → Q () { s with heap := h', toks := s.toks + 2 }) :
    wpAny (model prog w) A (setAttr (.ref x) name v) Q E s := by
  obtain ⟨e1, e2⟩ := Prod.mk.inj e
  have hdx : s.heap.get? dx = some (dictOf es n) := by
    have := I.dict
    rw [hd] at this
    exact this
  refine set_plain X I hs (osa_dict (s := { s with toks := s.toks + 1 }) (h₀ := noObjs s.heap) (L := L) (m := m) (od := dictOf es n) (od' := dictOf es' n') (es := es') (n := n') (pre := []) (post := ledger s.heap L dx)
    (fr_all hL) (news_ledger hne hdx) X I hd hp ht hh hl (fun _ q => nomatch q) (fun ⟨_, _⟩ q => (mem_ledger.mp q).2.1) (by rw [putName_dict, e1, e2]) rfl hz fun h' F' N' => ?_)
  exact h h' F'.ns (N'.get (List.Mem.head _)) fun b o n1 n2 ho => N'.get (List.Mem.tail _ (mem_ledger.mpr ⟨n2, n1, ho⟩))
end
end Att

namespace L2
open PySem PySem.Spec PyProof.Rows

theorem vals_ints : ∀ {vs : List Value} {ns : List Int}, IntsAre vs ns → Vals (ns.map V.int) vs
  | _, _, .nil => .nil
  | _, _, .cons n t h => .cons ⟨t, rfl⟩ (vals_ints h)

/-- nothing is tracked but the script, known to the object (or it is an object of the module) -/
def Only (H : Hp) : Prop := ∀ b, H b = none ∨ ∃ o xs, H b = some (.frz o (.lst xs))

/-- THE HEAD: the law's promise, at the heap behind the top. F, the promise of the law's def, may use that base is part of the heap (so K.In base, base.Ns mainGlobals mg stand in Mod) -/
theorem law_call {P : Program} {w : World} {K : PySem.W.Frag} {mg mb : Str → Option Value} {CX : CXT} {k : Nat} {fa a : Addr} {fd : FuncData} {x : Str} {sp : Sp} {s₁ : Shared} {vs : List Value} {ns : List Int}
    (KX : K.In s₁.heap) (hns : s₁.heap.Ns mainGlobals mg) (hb : s₁.heap.Ns builtinsNs mb) (hbb : ∀ x : Str, x ≠ "__name__" → mb x = bootBuiltins x) (hlim : s₁.heap.NoLimit) (hg : s₁.gens = #[])
    (ha : s₁.heap.get? a = some { cls := .type "list", data := .seq vs.toArray }) (hi : IntsAre vs ns) (hl : ns.length ≤ sizeLine) (hr : Room k callerA)
    (F : ∀ base : Heap, K.In base → base.Ns mainGlobals mg → FnOk P w K mg base CX k fa fd [x] sp) (hbind : ∀ (s : Shared) (u : Value), BindsTo s fd ⟨[u], []⟩ [(x, u)])
    (hsp : ∀ H : Hp, Only H → SqL K H a (ns.map V.int) → sp [.ref a] H (fun v _ => v = .bl true) fun _ _ _ => False)
    (hCX : ∀ H e s', CX [] H s₁ (fun _ _ _ => False) e s' → False) :
    codeAny (model P w) callerA (.call (.ref fa) ⟨[.ref a], []⟩) (fun r s' => r = .ok (.ret (.bool true)) ∧ OldK s₁.heap s'.heap ∧ s'.os = s₁.os ∧ AllBare s'.gens) s₁ := by
  have rv := vals_ints hi
  have lenV := hi.length
  -- from an abstract heap in which nothing but the script may be tracked
  have core : ∀ H : Hp, Only H → SqL K H a (ns.map V.int) → HOk P w H s₁.heap → (∀ b, H b ≠ none → b = a) → (H a ≠ none → K.lookup a = none) →
      codeAny (model P w) callerA (.call (.ref fa) ⟨[.ref a], []⟩) (fun r s' => r = .ok (.ret (.bool true)) ∧ OldK s₁.heap s'.heap ∧ s'.os = s₁.os ∧ AllBare s'.gens) s₁ := by
    intro H hO hS hok hA hK
    have base_of : ∀ {b : Addr} {o : Obj}, s₁.heap.get? b = some o → H b = none → (hidT s₁.heap H).get? b = some o := fun e n => hidT_get e n
    have noA : ∀ {b : Addr} {o : Obj} {es : Array DictEntry} {ep : Nat}, s₁.heap.get? b = some o → o.data = .dict es ep → H b = none := fun {b o es ep} e d => by
      cases q : H b with
      | none => rfl
      | some u =>
        have e' : b = a := hA b (by rw [q]; simp)
        subst e'
        rw [ha] at e; cases e
        have d' : Data.seq vs.toArray _ = Data.dict es ep := d
        cases d'
    have nsK : ∀ {b : Addr} {m : Str → Option Value}, s₁.heap.Ns b m → (hidT s₁.heap H).Ns b m := fun {b m} ⟨o, es, ep, e, d, r⟩ => ⟨o, es, ep, base_of e (noA e d), d, r⟩
    have hKb : K.In (hidT s₁.heap H) := fun b o e => base_of (KX b o e) (by
      cases q : H b with
      | none => rfl
      | some u =>
        have e' : b = a := hA b (by rw [q]; simp)
        subst e'
        rw [hK (by rw [q]; simp)] at e; cases e)
    have hM : Mod K mg (hidT s₁.heap H) := ⟨hKb, nsK hns, ⟨mb, nsK hb, hbb⟩, let ⟨mc, h1, h2⟩ := hlim; ⟨mc, nsK h1, h2⟩⟩
    have e0 : Env0 P w K mg (hidT s₁.heap H) callerA [] s₁ H := ⟨rfl, hM, fun b o e => of_hidT e, Nat.le_of_eq (hidT_size _ _), trivial, fun b hb => absurd (show b ∈ ([] : List Addr) from hb) (by simp), hok, .of_eq hg⟩
    refine codeAny_mono ((F _ hKb (nsK hns)).run callerA [] s₁ H ⟨[.ref a], []⟩ [.ref a] [.ref a] _ _ hr e0 (hbind s₁ (.ref a)) (.cons rfl .nil) (hsp H hO hS)) fun r s' h => ?_
    cases r with
    | error e => exact (hCX H e s' h).elim
    | ok fl =>
      cases fl with
      | next => exact False.elim h
      | brk => exact False.elim h
      | cont => exact False.elim h
      | ret u =>
        obtain ⟨v, H', os, bare, un, hok', r', q⟩ := h
        have q' : v = .bl true := q
        subst q'
        obtain rfl : u = Value.bool true := r'
        refine ⟨rfl, OldK.of_keep fun b o e => ?_, os, bare⟩
        cases q : H b with
        | none => exact un.keep b o e q (by intro z; exact absurd (show b ∈ ([] : List Addr) from z) (by simp)) (by simp)
        | some u =>
          rcases hO b with z | ⟨ob, xs, z⟩
          · rw [q] at z; cases z
          · have z2 := un.frzs b ob _ z
            obtain ⟨e1, _⟩ := hok b _ z
            obtain ⟨e2, _⟩ := hok' b _ z2
            rw [e] at e1; cases e1
            exact e2
  cases hk : K.lookup a with
  | some o =>
    -- the script is one of the module's own objects
    have e := KX a o hk
    rw [ha] at e
    cases e
    refine core (fun _ => none) (fun _ => .inl rfl) (.inr ⟨_, vs.toArray, _, hk, rfl, rfl, rfl, by rw [List.size_toArray, lenV]; exact hl, by simpa using rv⟩) (fun b u z => by have z' : (none : Option HO) = some u := z; cases z') (fun b z => absurd rfl z) fun z => absurd rfl z
  | none =>
    refine core (fun b => if b = a then some (.frz { cls := .type "list", data := .seq vs.toArray } (.lst (ns.map V.int))) else none) (fun b => ?_) (.inl (.inr ⟨{ cls := .type "list", data := .seq vs.toArray }, if_pos rfl⟩)) (fun b u z => ?_) (fun b z => ?_) fun _ => hk
    · by_cases hb : b = a
      · exact .inr ⟨_, _, if_pos hb⟩
      · exact .inl (if_neg hb)
    · by_cases hb : b = a
      · have z' := (if_pos hb).symm.trans z
        cases z'
        subst hb
        exact ⟨ha, by rw [List.length_map]; exact hl, vs, _, rv, ha⟩
      · have z' := (if_neg hb).symm.trans z
        cases z'
    · by_cases hb : b = a
      · exact hb
      · exact absurd (if_neg hb) z
end L2

namespace L2
open PySem PySem.Spec PyProof.Rows

abbrev KOf {K : PySem.W.Frag} {h : Heap} (_ : K.In h) : PySem.W.Frag := K

/-- the goal that k_head leaves (case hc), from the law's promise. F gives the function object fd (K's own) once, then the promise over every base -/
theorem walk_of {l : PySem.W.OpenLaw} {n k : Nat} {q : Program} {loose : List Str} {XP : (Str → Option Value) → Heap → Prop} {YP : World → Heap → Prop} {d : DefRec} {K : Params → PySem.W.Frag} {CX : World → CXT} {sp : World → Sp} {x : Str}
    (hn : l.most = some n) (hn2 : n ≤ sizeLine) (hdf : d.params.defaults = []) (hr : Room k callerA)
    (hY : ∀ (w : World) (h : Heap), YP w h → (K w.params).In h)
    (F : ∀ (w : World) (mg : Str → Option Value) (fa : Addr) (h : Heap), (K w.params).In h → h.Ns mainGlobals mg → mg d.name = some (.ref fa) →
      ∃ fd : FuncData, (∀ (s : Shared) (u : Value), BindsTo s fd ⟨[u], []⟩ [(x, u)]) ∧
        ∀ base : Heap, (K w.params).In base → base.Ns mainGlobals mg → FnOk l.prog w (K w.params) mg base (CX w) k fa fd [x] (sp w))
    (hsp : ∀ (w : World) (H : Hp) (a : Addr) (ns : List Int), ns.length ≤ n → Only H → SqL (K w.params) H a (ns.map V.int) → sp w [.ref a] H (fun v _ => v = .bl true) fun _ _ _ => False)
    (hCX : ∀ (w : World) (H : Hp) (s : Shared) (e : Value) (s' : Shared), CX w [] H s (fun _ _ _ => False) e s' → False) :
    PySem.W.WalkO q loose XP YP l.row.toRowW d [] (fun f vs => PySem.call f vs) := by
  refine Att.attach_call hn hdf fun w s₀ s₁ mg mb fa o pm cd doc a vs ns G Y ho hd hcd hmg hobj hints hlen hg => ?_
  have KX := hY w _ Y
  obtain ⟨fd, hb, hF⟩ := F w mg fa _ KX G.T.g hmg
  exact law_call KX G.T.g G.T.b G.T.builtins G.T.nolimit hg hobj hints (Nat.le_trans hlen hn2) hr hF hb (fun H hO hS => hsp w H a ns hlen hO hS) fun H e s' => hCX w H s₁ e s'
/-- the same where the promise hangs on the written part alone: (sp := My.sp_law), no hole under a binder -/
theorem walk_ofK {l : PySem.W.OpenLaw} {n k : Nat} {q : Program} {loose : List Str} {XP : (Str → Option Value) → Heap → Prop} {YP : World → Heap → Prop} {d : DefRec} {K : Params → PySem.W.Frag} {CX : CXT} {sp : PySem.W.Frag → Sp} {x : Str}
    (hn : l.most = some n) (hn2 : n ≤ sizeLine) (hdf : d.params.defaults = []) (hr : Room k callerA)
    (hY : ∀ (w : World) (h : Heap), YP w h → (K w.params).In h)
    (F : ∀ (w : World) (mg : Str → Option Value) (fa : Addr) (h : Heap), (K w.params).In h → h.Ns mainGlobals mg → mg d.name = some (.ref fa) →
      ∃ fd : FuncData, (∀ (s : Shared) (u : Value), BindsTo s fd ⟨[u], []⟩ [(x, u)]) ∧
        ∀ base : Heap, (K w.params).In base → base.Ns mainGlobals mg → FnOk l.prog w (K w.params) mg base CX k fa fd [x] (sp (K w.params)))
    (hsp : ∀ (K : PySem.W.Frag) (H : Hp) (a : Addr) (ns : List Int), ns.length ≤ n → Only H → SqL K H a (ns.map V.int) → sp K [.ref a] H (fun v _ => v = .bl true) fun _ _ _ => False)
    (hCX : ∀ (H : Hp) (s : Shared) (e : Value) (s' : Shared), CX [] H s (fun _ _ _ => False) e s' → False) :
    PySem.W.WalkO q loose XP YP l.row.toRowW d [] (fun f vs => PySem.call f vs) :=
  walk_of (K := K) (CX := fun _ => CX) (sp := fun w => sp (K w.params)) hn hn2 hdf hr hY F (fun w H a ns h1 h2 h3 => hsp (K w.params) H a ns h1 h2 h3) fun _ H s e s' => hCX H s e s'
end L2

/- THE LAST THEOREM (shape; LID, My.* are yours):
   My.Adr: a structure of the addresses that your layer names (classes, functions); My.Txt K t: a structure (Prop) of the equations over K;
   My.txt_mk : {K} {implicit addresses ..} (e1 : nsIn K mainGlobals "law" = some (some (.ref f))) (e2 : K.lookup f = some ⟨oc, od, .func (fnOf "law" "law" params body scope dV kV doc pm an cdv ct), sl⟩) (e3 : codeIn K cdv "law" = true) .. : ∃ t, My.Txt K t

set_option maxRecDepth 100000 in
set_option maxHeartbeats 0 in
theorem PySem.Challenge.cw_LID_holds : PySem.Challenge.rw_LID.Holds := by
  w_on; o_law; k_head; (case hw => w_witness2)
  k_fill
  refine L2.walk_of (l := PySem.Challenge.rw_LID) (n := 63) (k := 40) (x := "script") (CX := fun w => ..) (sp := fun _ => My.sp_law) rfl (by decide) rfl ⟨rfl, by decide, by decide⟩ (fun w h Y => PySem.W.kIn_of Y) ?F ?S ?C
  case F =>
    intro w mg fa h KX G hmg
    have T : ∃ t, My.Txt (L2.KOf KX) t := by
      dsimp only [L2.KOf]                          -- K must stand as «<heap const> w.params» for k_is
      refine' My.txt_mk ?e1 ?e2 ?e3 ..
      (case e1 => PySem.W.k_is)                    -- in the order: a name -> its address -> its object -> its parts
      (case e2 => PySem.W.k_is)
      ..
    obtain ⟨t, T⟩ := T
    have e0 := hmg.symm.trans (PySem.W.mg_of KX G T.law)
    cases e0                                       -- fa is the law's own address
    exact ⟨_, fun s u => .of_eq rfl, fun base kb nb => My.law_fn T kb nb⟩     -- if «.of_eq rfl» comes too early: refine' ⟨_, ?b, fun base kb nb => My.law_fn T kb nb⟩; exact fun s u => .of_eq rfl
  case S => exact fun w H a ns hl hO hS => ..
  case C => exact ..
(the tactic k_is has no namespace: write k_is) -/

/-! SHORT WORDS over the layer: a def of the text, its body, what a loop and a test want. -/
namespace L2
open PySem PySem.Spec PyProof.Rows

/-! ### the text by places -/
/-- the j-th statement of a class's body -/
def inClass (s : Stmt) (j : Nat) : Stmt := match s with
  | .ClassDef _ _ _ body _ _ _ _ _ _ _ => body.getD j (.Pass ⟨0, 0, 0, 0⟩)
  | _ => .Pass ⟨0, 0, 0, 0⟩
def defArgs (s : Stmt) : Arguments := match s with
  | .FunctionDef _ a _ _ _ _ _ _ _ _ => a
  | _ => { posonlyargs := [], args := [], vararg := none, kwonlyargs := [], kw_defaults := [], kwarg := none, defaults := [] }
def defBody (s : Stmt) : List Stmt := match s with
  | .FunctionDef _ _ b _ _ _ _ _ _ _ => b
  | _ => []
def defScope (s : Stmt) : Scope := match s with
  | .FunctionDef _ _ _ _ _ _ sc _ _ _ => sc
  | _ => { kind := .function, names := [], isGenerator := false, isCoroutine := false }

/-! ### no exception leaves a def -/
abbrev CX0 : CXT := fun _ _ _ _ _ _ => False
abbrev E0 : XK := fun _ _ _ => False
theorem pass0 {X : Cx} : Passes CX0 X E0 := fun _ _ _ _ _ _ _ h => h.elim

/-! ### a def (or method) of the text as it stands behind the top -/
structure Fun (K : PySem.W.Frag) (x qual : Str) (st : Stmt) (f : Addr) (fd : FuncData) : Prop where
  ex : ∃ (oc : Value) (od : Option Addr) (kV doc pm : Value) (an : Option Addr) (cdv ct : Value) (osl : Array (Option Value)),
    fd = PySem.W.fnOf x qual (defArgs st) (defBody st) (defScope st) .none kV doc pm an cdv ct ∧ K.lookup f = some ⟨oc, od, .func fd, osl⟩ ∧ PySem.W.codeIn K cdv qual = true
  kp : PySem.W.keepIn K (.ref f) = true
section
variable {P : Program} {w : World} {K : PySem.W.Frag} {mg : Str → Option Value} {base : Heap}
/-- THE RULE for a def: its body as a term of rules, and the reading of that term -/
theorem Fun.ok {x qual : Str} {st : Stmt} {f : Addr} {fd : FuncData} {N ps : List Str} {k : Nat} {sp : Sp} (F : Fun K x qual st f fd) (S : FnScope N ps (defScope st)) (len : ∀ vs H Q E, sp vs H Q E → vs.length = ps.length)
    (hbody : ∀ (cdv : Value) (A : Around) (outer : List Env) (s : Shared) (H : Hp) (vs : List V) (Q : VK) (E : XK), Room k (A.deeper (envOfC qual (defScope st) s.heap.objs.size f cdv)) → sp vs H Q E →
      ∃ t, PSs (cxOf CX0 P w K mg base N qual (defScope st) f cdv A outer s H E).nox (defBody st) t ∧ t { nx := fun _ H' => Q .non H', rt := Q } (start N vs) H) : FnOk P w K mg base CX0 (k + 1) f fd ps sp := by
  obtain ⟨oc, od, kV, doc, pm, an, cdv, ct, osl, rfl, lk, hcd⟩ := F.ex
  refine fn_of lk hcd S len fun A outer s H vs Q E hr hsp => ?_
  obtain ⟨t, h, q⟩ := hbody cdv A outer s H vs Q E hr hsp
  exact ⟨t, h.nox, q⟩
/-- how its arguments bind (no defaults): h is «fun _ _ _ _ _ _ us hl => match us, hl with | [_, _], _ => rfl», one _ a parameter -/
theorem Fun.binds {x qual : Str} {st : Stmt} {f : Addr} {fd : FuncData} {ps : List Str} (F : Fun K x qual st f fd)
    (h : ∀ (kV doc pm : Value) (an : Option Addr) (cdv ct : Value) (us : List Value), us.length = ps.length → bindArgs (PySem.W.fnOf x qual (defArgs st) (defBody st) (defScope st) .none kV doc pm an cdv ct) ⟨us, []⟩ = pure (ps.zip us)) : Binds K fd ps [] := by
  obtain ⟨oc, od, kV, doc, pm, an, cdv, ct, osl, rfl, lk, hcd⟩ := F.ex
  exact .all (h kV doc pm an cdv ct)
theorem fun_mk {x qual : Str} {st : Stmt} {f : Addr} {oc : Value} {od an : Option Addr} {osl : Array (Option Value)} {kV doc pm cdv ct : Value} (l : K.lookup f = some ⟨oc, od, .func (PySem.W.fnOf x qual (defArgs st) (defBody st) (defScope st) .none kV doc pm an cdv ct), osl⟩)
    (c : PySem.W.codeIn K cdv qual = true) (k : PySem.W.keepIn K (.ref f) = true) : Fun K x qual st f (PySem.W.fnOf x qual (defArgs st) (defBody st) (defScope st) .none kV doc pm an cdv ct) := ⟨⟨oc, od, kV, doc, pm, an, cdv, ct, osl, rfl, l, c⟩, k⟩
end
theorem hu_of {A : Around} {k : Nat} (hr : Room k A) : A.units + 1 < cLine := Nat.lt_of_le_of_lt (Nat.add_le_add_left (by decide : 1 ≤ 64) _) hr.units
theorem small1000 {n : Nat} (h : n ≤ 1000) : n < sizeLine := Nat.lt_of_le_of_lt h (by decide)

/-! ### expressions in short: the name that stands in the i-th slot -/
section
variable {X : Cx}
theorem pv (i : Nat) {x : Str} {pos : Pos} (hN : X.N[i]? = some x := by rfl) (hv : Vis X.env.scope x := by first | exact Or.inl rfl | exact Or.inr (Or.inl rfl) | exact Or.inr (Or.inr rfl)) (hd : (x == ("__debug__" : Str)) = false := by decide)
    (hcd : (x == ("__classdict__" : Str)) = false := by decide) : PE X (.Name x pos) (tVar i) := pe_var hN hv hd hcd
end

/-! ### tests -/
theorem iteF {A B : Prop} (h : B) : if false = true then A else B := by
  rw [if_neg Bool.false_ne_true]
  exact h
theorem iteT {A B : Prop} (h : A) : if true = true then A else B := by
  rw [if_pos rfl]
  exact h
theorem ite2 {c A B : Prop} [Decidable c] (h1 : c → A) (h2 : ¬ c → B) : if c then A else B := by
  by_cases h : c
  · rw [if_pos h]
    exact h1 h
  · rw [if_neg h]
    exact h2 h
theorem iteNS {c A B : Prop} [Decidable c] (hc : c) (h : B) : if (!decide c) = true then A else B := by
  rw [decide_eq_true hc]
  exact iteF h

/-! ### heaps -/
/-- all that was tracked is as it was -/
def Same (H H' : Hp) : Prop := ∀ b o, H b = some o → H' b = some o
theorem Same.refl (H : Hp) : Same H H := fun _ _ h => h
theorem Same.trans {H H1 H2 : Hp} (a : Same H H1) (b : Same H1 H2) : Same H H2 := fun c o h => b c o (a c o h)
theorem Same.free {H H' : Hp} (e : Same H H') {l : Addr} (h : H' l = Option.none) : H l = Option.none := by
  cases q : H l with
  | none => rfl
  | some o =>
    rw [e l o q] at h
    cases h
theorem Same.seq {K : PySem.W.Frag} {H H' : Hp} {a : Addr} {xs : List V} (e : Same H H') (h : SqL K H a xs) : SqL K H' a xs := by
  rcases h with (h | ⟨o, h⟩) | h
  · exact .inl (.inl (e _ _ h))
  · exact .inl (.inr ⟨o, e _ _ h⟩)
  · exact .inr h

end L2
set_option Elab.async false
set_option linter.all false
set_option maxRecDepth 100000
set_option maxHeartbeats 4000000
namespace L2
open PySem PySem.Spec PyProof.Rows

/-! ### plain data: what stands at a value, through all its tuples and lists -/
inductive Da where
  | fl (v : V)
  | tup (ds : List Da)
  | lst (ds : List Da)
mutual
def Isd (K : PySem.W.Frag) (H : Hp) : Da → V → Prop
  | .fl x, v => v = x ∧ flatV x = true
  | .tup ds, v => ∃ a xs, v = .ref a ∧ SqT K H a xs ∧ Isds K H ds xs
  | .lst ds, v => ∃ a xs, v = .ref a ∧ SqL K H a xs ∧ Isds K H ds xs
def Isds (K : PySem.W.Frag) (H : Hp) : List Da → List V → Prop
  | [], xs => xs = []
  | d :: ds, xs => ∃ v vs, xs = v :: vs ∧ Isd K H d v ∧ Isds K H ds vs
end
mutual
def eqD : Da → Da → Bool
  | .fl x, .fl y => eqV x y
  | .tup a, .tup b => eqDs a b
  | .lst a, .lst b => eqDs a b
  | _, _ => false
def eqDs : List Da → List Da → Bool
  | [], [] => true
  | a :: r, b :: t => eqD a b && eqDs r t
  | _, _ => false
end
mutual
def depD : Da → Nat
  | .fl _ => 0
  | .tup ds => depDs ds + 1
  | .lst ds => depDs ds + 1
def depDs : List Da → Nat
  | [] => 0
  | d :: ds => max (depD d) (depDs ds)
end
theorem Isds.len {K : PySem.W.Frag} {H : Hp} : ∀ {ds : List Da} {xs : List V}, Isds K H ds xs → ds.length = xs.length
  | [], xs, h => by unfold Isds at h; subst h; rfl
  | d :: ds, xs, h => by
    unfold Isds at h
    obtain ⟨v, vs, rfl, _, t⟩ := h
    rw [List.length_cons, List.length_cons, Isds.len t]
theorem Isds.get {K : PySem.W.Frag} {H : Hp} : ∀ {ds : List Da} {xs : List V} {i : Nat} {d : Da} {v : V}, Isds K H ds xs → ds[i]? = some d → xs[i]? = some v → Isd K H d v
  | [], _, _, _, _, _, e, _ => by simp at e
  | d :: ds, xs, 0, _, _, h, e, q => by
    unfold Isds at h
    obtain ⟨v, vs, rfl, hd, t⟩ := h
    simp at e q
    subst e q
    exact hd
  | d :: ds, xs, i + 1, _, _, h, e, q => by
    unfold Isds at h
    obtain ⟨v, vs, rfl, hd, t⟩ := h
    exact Isds.get t (by simpa using e) (by simpa using q)
theorem eqV_refl {x : V} (h : flatV x = true) : eqV x x = true := by
  cases x with
  | non => rfl
  | bl b => show (b == b) = true; simp
  | int i => show (i == i) = true; simp
  | str z => show (z == z) = true; simp
  | _ => exact absurd (show false = true from h) Bool.false_ne_true
section
variable {X : Cx} {pins : List (Addr × Obj)} {σ : St} {H : Hp} {s : Shared}
theorem Inv.lst_tup (I : Inv X pins σ H s) {a : Addr} {xs ys : List V} (h : SqL X.K H a xs) (h' : SqT X.K H a ys) : False := by
  obtain ⟨its, _, ⟨o1, n1, e1, c1, _⟩, _⟩ := I.list h
  obtain ⟨its2, _, ⟨o, e2, c2, _⟩, _⟩ := I.tuple h'
  rw [e1] at e2
  cases e2
  rw [c1] at c2
  exact absurd (Value.type.inj c2) (by decide)
theorem SqL.ok {K : PySem.W.Frag} {a : Addr} {xs : List V} (h : SqL K H a xs) : SqL K H a xs := h
theorem Isd.flat_ref {K : PySem.W.Frag} {a : Addr} {x : V} (h : Isd K H (.fl x) (.ref a)) : False := by
  unfold Isd at h
  obtain ⟨e, f⟩ := h
  subst e
  exact absurd (show false = true from f) Bool.false_ne_true
mutual
theorem Isd.inj (I : Inv X pins σ H s) : ∀ (d e : Da) {v : V}, Isd X.K H d v → Isd X.K H e v → d = e
  | .fl x, .fl y, v, h, q => by
    unfold Isd at h q
    rw [← h.1, ← q.1]
  | .fl x, .tup ys, v, h, q => by
    unfold Isd at q
    obtain ⟨a, zs, e, _⟩ := q
    subst e
    exact h.flat_ref.elim
  | .fl x, .lst ys, v, h, q => by
    unfold Isd at q
    obtain ⟨a, zs, e, _⟩ := q
    subst e
    exact h.flat_ref.elim
  | .tup xs, .fl y, v, h, q => by
    unfold Isd at h
    obtain ⟨a, zs, e, _⟩ := h
    subst e
    exact q.flat_ref.elim
  | .lst xs, .fl y, v, h, q => by
    unfold Isd at h
    obtain ⟨a, zs, e, _⟩ := h
    subst e
    exact q.flat_ref.elim
  | .tup xs, .tup ys, v, h, q => by
    unfold Isd at h q
    obtain ⟨a, us, e, ha, hs⟩ := h
    obtain ⟨b, ws, e', hb, qs⟩ := q
    subst e
    cases e'
    rw [I.tuple_inj ha hb] at hs
    rw [Isds.inj I xs ys hs qs]
  | .lst xs, .lst ys, v, h, q => by
    unfold Isd at h q
    obtain ⟨a, us, e, ha, hs⟩ := h
    obtain ⟨b, ws, e', hb, qs⟩ := q
    subst e
    cases e'
    rw [I.list_inj ha hb] at hs
    rw [Isds.inj I xs ys hs qs]
  | .tup xs, .lst ys, v, h, q => by
    unfold Isd at h q
    obtain ⟨a, us, e, ha, hs⟩ := h
    obtain ⟨b, ws, e', hb, qs⟩ := q
    subst e
    cases e'
    exact (I.lst_tup hb ha).elim
  | .lst xs, .tup ys, v, h, q => by
    unfold Isd at h q
    obtain ⟨a, us, e, ha, hs⟩ := h
    obtain ⟨b, ws, e', hb, qs⟩ := q
    subst e
    cases e'
    exact (I.lst_tup ha hb).elim
theorem Isds.inj (I : Inv X pins σ H s) : ∀ (ds es : List Da) {vs : List V}, Isds X.K H ds vs → Isds X.K H es vs → ds = es
  | [], [], _, _, _ => rfl
  | [], e :: es, vs, h, q => by
    unfold Isds at h q
    obtain ⟨v, r, e1, _⟩ := q
    rw [h] at e1; cases e1
  | d :: ds, [], vs, h, q => by
    unfold Isds at h q
    obtain ⟨v, r, e1, _⟩ := h
    rw [q] at e1; cases e1
  | d :: ds, e :: es, vs, h, q => by
    unfold Isds at h q
    obtain ⟨v, r, e1, h1, h2⟩ := h
    obtain ⟨v', r', e2, q1, q2⟩ := q
    subst e1
    cases e2
    rw [Isd.inj I d e h1 q1, Isds.inj I ds es h2 q2]
end
mutual
theorem eqD_refl {K : PySem.W.Frag} : ∀ (d : Da) {v : V}, Isd K H d v → eqD d d = true
  | .fl x, v, h => by
    unfold Isd at h
    unfold eqD
    exact eqV_refl h.2
  | .tup ds, v, h => by
    unfold Isd at h
    obtain ⟨_, _, _, _, hs⟩ := h
    unfold eqD
    exact eqDs_refl ds hs
  | .lst ds, v, h => by
    unfold Isd at h
    obtain ⟨_, _, _, _, hs⟩ := h
    unfold eqD
    exact eqDs_refl ds hs
theorem eqDs_refl {K : PySem.W.Frag} : ∀ (ds : List Da) {vs : List V}, Isds K H ds vs → eqDs ds ds = true
  | [], _, _ => by unfold eqDs; rfl
  | d :: ds, vs, h => by
    unfold Isds at h
    obtain ⟨_, _, _, h1, h2⟩ := h
    unfold eqDs
    rw [eqD_refl d h1, eqDs_refl ds h2]
    rfl
end
/-- the turn-by-turn comparison's answer -/
theorem eqDs_all : ∀ (ds es : List Da), ds.length = es.length → (List.range ds.length).all (fun j => match ds[j]?, es[j]? with | some a, some b => eqD a b | _, _ => false) = eqDs ds es
  | [], [], _ => by unfold eqDs; rfl
  | [], _ :: _, h => by simp at h
  | _ :: _, [], h => by simp at h
  | d :: ds, e :: es, h => by
    have ih := eqDs_all ds es (by simpa using h)
    unfold eqDs
    rw [← ih, List.length_cons, List.range_succ_eq_map, List.all_cons, List.all_map]
    simp only [List.getElem?_cons_zero, Function.comp_def, List.getElem?_cons_succ]
theorem eqDs_len : ∀ (ds es : List Da), ds.length ≠ es.length → eqDs ds es = false
  | [], [], h => by simp at h
  | [], _ :: _, _ => by unfold eqDs; rfl
  | _ :: _, [], _ => by unfold eqDs; rfl
  | d :: ds, e :: es, h => by
    unfold eqDs
    rw [eqDs_len ds es (by simpa using h), Bool.and_false]
theorem depD_mem : ∀ {ds : List Da} {d : Da} {j : Nat}, ds[j]? = some d → depD d ≤ depDs ds
  | [], _, _, h => by simp at h
  | d :: ds, _, 0, h => by
    simp at h
    subst h
    unfold depDs
    omega
  | d :: ds, e, j + 1, h => by
    have := depD_mem (ds := ds) (d := e) (j := j) (by simpa using h)
    unfold depDs
    omega
def atE (ds es : List Da) (j : Nat) : Bool := match ds[j]?, es[j]? with
  | some a, some b => eqD a b
  | _, _ => false
/-- the items of two sequences, from an answer for each two items -/
theorem items_D {K : PySem.W.Frag} {n : Nat} {A : Around} (hE : ∀ (d e : Da) (v x : V) (u w : Value), depD d ≤ n → Isd K H d v → Isd K H e x → RelV v u → RelV x w → SeqAt.EqAt A s u w (eqD d e)) {ds es : List Da} {xs ys : List V} {us ws : List Value} (hdp : depDs ds ≤ n)
    (h1 : Isds K H ds xs) (h2 : Isds K H es ys) (r1 : Vals xs us) (r2 : Vals ys ws) (j : Nat) (l1 : j < us.toArray.size) (l2 : j < ws.toArray.size) : SeqAt.EqAt A s us.toArray[j] ws.toArray[j] (atE ds es j) := by
  have l1' : j < us.length := by simpa using l1
  have l2' : j < ws.length := by simpa using l2
  have q1 := h1.len
  have q2 := h2.len
  have q3 := r1.length
  have q4 := r2.length
  have a1 : ds[j]? = some ds[j] := List.getElem?_eq_getElem (by omega)
  have a2 : es[j]? = some es[j] := List.getElem?_eq_getElem (by omega)
  have a3 : xs[j]? = some xs[j] := List.getElem?_eq_getElem (by omega)
  have a4 : ys[j]? = some ys[j] := List.getElem?_eq_getElem (by omega)
  obtain ⟨u1, b1, c1⟩ := r1.get a3
  obtain ⟨w1, b2, c2⟩ := r2.get a4
  have e1 : us.toArray[j] = u1 := by
    have : us[j] = u1 := by rw [List.getElem?_eq_getElem l1'] at b1; exact Option.some.inj b1
    simpa using this
  have e2 : ws.toArray[j] = w1 := by
    have : ws[j] = w1 := by rw [List.getElem?_eq_getElem l2'] at b2; exact Option.some.inj b2
    simpa using this
  rw [e1, e2]
  unfold atE
  rw [a1, a2]
  exact hE ds[j] es[j] _ _ _ _ (Nat.le_trans (depD_mem a1) hdp) (h1.get a1 a3) (h2.get a2 a4) c1 c2
theorem eqAt_D (I : Inv X pins σ H s) : ∀ (n : Nat) (d e : Da) {A : Around} {v x : V} {u w : Value}, depD d ≤ n → Isd X.K H d v → Isd X.K H e x → RelV v u → RelV x w → A.units + n < cLine → SeqAt.EqAt A s u w (eqD d e) := by
  intro n
  induction n with
  | zero =>
    intro d e A v x u w hn hd he ru rw' hu
    cases d with
    | tup ds => unfold depD at hn; omega
    | lst ds => unfold depD at hn; omega
    | fl y =>
      unfold Isd at hd
      obtain ⟨rfl, fy⟩ := hd
      cases e with
      | fl z =>
        unfold Isd at he
        obtain ⟨rfl, fz⟩ := he
        unfold eqD
        exact eqAt_V ru rw' fy fz
      | tup es =>
        unfold Isd at he
        obtain ⟨a, xs, rfl, ha, _⟩ := he
        obtain ⟨its, _, p, _⟩ := I.tuple ha
        cases rw'
        have p' : s.heap.IsTuple a its.toArray := p
        cases v with
        | non => cases ru; exact SeqAt.EqAt.none_tuple p' (by omega)
        | bl b => cases ru; exact SeqAt.EqAt.bool_tuple b p' (by omega)
        | int i => obtain ⟨t, rfl⟩ := ru; exact SeqAt.EqAt.int_tuple i t p' (by omega)
        | str z => obtain ⟨t, rfl⟩ := ru; exact SeqAt.EqAt.str_tuple z t p' (by omega)
        | _ => exact absurd (show false = true from fy) Bool.false_ne_true
      | lst es =>
        unfold Isd at he
        obtain ⟨a, xs, rfl, ha, _⟩ := he
        obtain ⟨its, _, p, _⟩ := I.list ha
        cases rw'
        have p' := p.isList
        cases v with
        | non => cases ru; exact SeqAt.EqAt.none_list p' (by omega)
        | bl b => cases ru; exact SeqAt.EqAt.bool_list b p' (by omega)
        | int i => obtain ⟨t, rfl⟩ := ru; exact SeqAt.EqAt.int_list i t p' (by omega)
        | str z => obtain ⟨t, rfl⟩ := ru; exact SeqAt.EqAt.str_list z t p' (by omega)
        | _ => exact absurd (show false = true from fy) Bool.false_ne_true
  | succ n ih =>
    intro d e A v x u w hn hd he ru rw' hu
    have items : ∀ {ds es : List Da} {xs ys : List V} {us ws : List Value}, depDs ds ≤ n → Isds X.K H ds xs → Isds X.K H es ys → Vals xs us → Vals ys ws →
        ∀ j (h1 : j < us.toArray.size) (h2 : j < ws.toArray.size), SeqAt.EqAt A.in1 s us.toArray[j] ws.toArray[j] (atE ds es j) :=
      items_D (n := n) fun d e v x u w h1 h2 h3 h4 h5 => ih d e h1 h2 h3 h4 h5 (by show A.units + 1 + n < cLine; omega)
    cases d with
    | fl y =>
      exact ih (.fl y) e (by unfold depD; omega) hd he ru rw' (by omega)
    | tup ds =>
      cases e with
      | fl z =>
        unfold Isd at hd he
        obtain ⟨a, xs, rfl, ha, _⟩ := hd
        obtain ⟨rfl, fz⟩ := he
        obtain ⟨its, _, p, _⟩ := I.tuple ha
        cases ru
        have p' : s.heap.IsTuple a its.toArray := p
        cases x with
        | non => cases rw'; exact SeqAt.EqAt.tuple_none p' (by omega)
        | bl b => cases rw'; exact SeqAt.EqAt.tuple_bool b p' (by omega)
        | int i => obtain ⟨t, rfl⟩ := rw'; exact SeqAt.EqAt.tuple_int i t p' (by omega)
        | str z => obtain ⟨t, rfl⟩ := rw'; exact SeqAt.EqAt.tuple_str z t p' (by omega)
        | _ => exact absurd (show false = true from fz) Bool.false_ne_true
      | tup es =>
        have hd0 := hd
        have he0 := he
        unfold Isd at hd he
        obtain ⟨a, xs, rfl, ha, hs⟩ := hd
        obtain ⟨b, ys, rfl, hb, qs⟩ := he
        cases ru
        cases rw'
        by_cases hab : a = b
        · subst hab
          rw [← Isd.inj I (.tup ds) (.tup es) hd0 he0, eqD_refl _ hd0]
          exact SeqAt.EqAt.same _
        · obtain ⟨us, r1, p1, _⟩ := I.tuple ha
          obtain ⟨ws, r2, p2, _⟩ := I.tuple hb
          have hdp : depDs ds ≤ n := by unfold depD at hn; omega
          have key := SeqAt.RcAt.tuples (A := A) (e := atE ds es) (show s.heap.IsTuple a us.toArray from p1) (show s.heap.IsTuple b ws.toArray from p2) (by omega) (items hdp hs qs r1 r2)
          have ev : ((List.range (min us.toArray.size ws.toArray.size)).all (atE ds es) && us.toArray.size == ws.toArray.size) = eqD (.tup ds) (.tup es) := by
            have q1 := hs.len
            have q2 := qs.len
            have q3 := r1.length
            have q4 := r2.length
            have z1 : us.toArray.size = ds.length := by simp; omega
            have z2 : ws.toArray.size = es.length := by simp; omega
            unfold eqD
            rw [z1, z2]
            by_cases hl : ds.length = es.length
            · rw [← eqDs_all ds es hl, hl, Nat.min_self, beq_self_eq_true, Bool.and_true]
              rfl
            · rw [eqDs_len ds es hl, beq_eq_false_iff_ne.mpr hl, Bool.and_false]
          rw [ev] at key
          exact SeqAt.EqAt.of_refs hab key
      | lst es =>
        unfold Isd at hd he
        obtain ⟨a, xs, rfl, ha, hs⟩ := hd
        obtain ⟨b, ys, rfl, hb, qs⟩ := he
        cases ru
        cases rw'
        obtain ⟨us, r1, p1, _⟩ := I.tuple ha
        obtain ⟨ws, r2, p2, _⟩ := I.list hb
        unfold eqD
        exact SeqAt.EqAt.tuple_list (show s.heap.IsTuple a us.toArray from p1) p2.isList (by omega)
    | lst ds =>
      cases e with
      | fl z =>
        unfold Isd at hd he
        obtain ⟨a, xs, rfl, ha, _⟩ := hd
        obtain ⟨rfl, fz⟩ := he
        obtain ⟨its, _, p, _⟩ := I.list ha
        cases ru
        have p' := p.isList
        cases x with
        | non => cases rw'; exact SeqAt.EqAt.list_none p' (by omega)
        | bl b => cases rw'; exact SeqAt.EqAt.list_bool b p' (by omega)
        | int i => obtain ⟨t, rfl⟩ := rw'; exact SeqAt.EqAt.list_int i t p' (by omega)
        | str z => obtain ⟨t, rfl⟩ := rw'; exact SeqAt.EqAt.list_str z t p' (by omega)
        | _ => exact absurd (show false = true from fz) Bool.false_ne_true
      | tup es =>
        unfold Isd at hd he
        obtain ⟨a, xs, rfl, ha, hs⟩ := hd
        obtain ⟨b, ys, rfl, hb, qs⟩ := he
        cases ru
        cases rw'
        obtain ⟨us, r1, p1, _⟩ := I.list ha
        obtain ⟨ws, r2, p2, _⟩ := I.tuple hb
        unfold eqD
        exact SeqAt.EqAt.list_tuple p1.isList (show s.heap.IsTuple b ws.toArray from p2) (by omega)
      | lst es =>
        have hd0 := hd
        have he0 := he
        unfold Isd at hd he
        obtain ⟨a, xs, rfl, ha, hs⟩ := hd
        obtain ⟨b, ys, rfl, hb, qs⟩ := he
        cases ru
        cases rw'
        by_cases hab : a = b
        · subst hab
          rw [← Isd.inj I (.lst ds) (.lst es) hd0 he0, eqD_refl _ hd0]
          exact SeqAt.EqAt.same _
        · obtain ⟨us, r1, p1, _⟩ := I.list ha
          obtain ⟨ws, r2, p2, _⟩ := I.list hb
          have hdp : depDs ds ≤ n := by unfold depD at hn; omega
          have q1 := hs.len
          have q2 := qs.len
          have q3 := r1.length
          have q4 := r2.length
          have z1 : us.toArray.size = ds.length := by simp; omega
          have z2 : ws.toArray.size = es.length := by simp; omega
          by_cases hl : ds.length = es.length
          · have key := SeqAt.RcAt.lists (A := A) (e := atE ds es) p1.isList p2.isList (by rw [z1, z2]; exact hl) (by omega) (items hdp hs qs r1 r2)
            have ev : (List.range us.toArray.size).all (atE ds es) = eqD (.lst ds) (.lst es) := by
              unfold eqD
              rw [z1, ← eqDs_all ds es hl]
              rfl
            rw [ev] at key
            exact SeqAt.EqAt.of_refs hab key
          · have key := SeqAt.RcAt.lists_lengths (A := A) p1.isList p2.isList (by rw [z1, z2]; exact bne_iff_ne.mpr hl) (by omega)
            have ev : false = eqD (.lst ds) (.lst es) := by
              unfold eqD
              rw [eqDs_len ds es hl]
            rw [ev] at key
            exact SeqAt.EqAt.of_refs hab key
theorem all_T {ds es : List Da} {us ws : List Value} (q1 : ds.length = us.length) (q2 : es.length = ws.length) : ((List.range (min us.toArray.size ws.toArray.size)).all (atE ds es) && us.toArray.size == ws.toArray.size) = eqDs ds es := by
  have z1 : us.toArray.size = ds.length := by simp; omega
  have z2 : ws.toArray.size = es.length := by simp; omega
  rw [z1, z2]
  by_cases hl : ds.length = es.length
  · rw [← eqDs_all ds es hl, hl, Nat.min_self, beq_self_eq_true, Bool.and_true]
    rfl
  · rw [eqDs_len ds es hl, beq_eq_false_iff_ne.mpr hl, Bool.and_false]
/-- == and != of two tuples, of two lists, through all that is in them -/
def rCmpD (K : PySem.W.Frag) (f : Bool → Bool) : R2 := fun x y H Q => ∃ a b xs ys ds es, x = .ref a ∧ y = .ref b ∧ ((SqT K H a xs ∧ SqT K H b ys) ∨ (SqL K H a xs ∧ SqL K H b ys)) ∧ Isds K H ds xs ∧ Isds K H es ys ∧ depDs ds ≤ 50 ∧ Q (.bl (f (eqDs ds es))) H
theorem op_eqD (hu : X.A.units + 64 < cLine) : OpR X (compareOp .Eq) (rCmpD X.K id) := by
  intro pins s σ H x y v u Q I rx ry h
  obtain ⟨a, b, xs, ys, ds, es, rfl, rfl, hq, hs, qs, hd, q⟩ := h
  cases rx
  cases ry
  have items := fun {us ws : List Value} (r1 : Vals xs us) (r2 : Vals ys ws) => items_D (s := s) (H := H) (n := 50) (A := X.A.in1) (fun d e v x u w h1 h2 h3 h4 h5 => eqAt_D I 50 d e h1 h2 h3 h4 h5 (by show X.A.units + 1 + 50 < cLine; omega)) hd hs qs r1 r2
  rcases hq with ⟨ha, hb⟩ | ⟨ha, hb⟩
  · obtain ⟨us, r1, p1, _⟩ := I.tuple ha
    obtain ⟨ws, r2, p2, _⟩ := I.tuple hb
    refine SeqAt.eq_tupleAt (e := atE ds es) (show s.heap.IsTuple a us.toArray from p1) (show s.heap.IsTuple b ws.toArray from p2) (by omega) (items r1 r2) ?_
    rw [all_T (hs.len.trans r1.length) (qs.len.trans r2.length)]
    exact ⟨.bl _, H, I, rfl, q⟩
  · obtain ⟨us, r1, p1, _⟩ := I.list ha
    obtain ⟨ws, r2, p2, _⟩ := I.list hb
    have z1 : us.toArray.size = ds.length := by have q1 := hs.len; have q3 := r1.length; simp; omega
    have z2 : ws.toArray.size = es.length := by have q1 := qs.len; have q3 := r2.length; simp; omega
    by_cases hl : ds.length = es.length
    · refine SeqAt.eq_listAt (e := atE ds es) p1.isList p2.isList (by rw [z1, z2]; exact hl) (by omega) (items r1 r2) ?_
      have ev : (List.range us.toArray.size).all (atE ds es) = eqDs ds es := by
        rw [z1, ← eqDs_all ds es hl]
        rfl
      rw [ev]
      exact ⟨.bl _, H, I, rfl, q⟩
    · refine SeqAt.eq_list_lengthsAt p1.isList p2.isList (by rw [z1, z2]; exact bne_iff_ne.mpr hl) (by omega) ?_
      have ev : false = eqDs ds es := (eqDs_len ds es hl).symm
      rw [ev]
      exact ⟨.bl _, H, I, rfl, q⟩
theorem op_neD (hu : X.A.units + 64 < cLine) : OpR X (compareOp .NotEq) (rCmpD X.K not) := by
  intro pins s σ H x y v u Q I rx ry h
  obtain ⟨a, b, xs, ys, ds, es, rfl, rfl, hq, hs, qs, hd, q⟩ := h
  cases rx
  cases ry
  have items := fun {us ws : List Value} (r1 : Vals xs us) (r2 : Vals ys ws) => items_D (s := s) (H := H) (n := 50) (A := X.A.in1) (fun d e v x u w h1 h2 h3 h4 h5 => eqAt_D I 50 d e h1 h2 h3 h4 h5 (by show X.A.units + 1 + 50 < cLine; omega)) hd hs qs r1 r2
  rcases hq with ⟨ha, hb⟩ | ⟨ha, hb⟩
  · obtain ⟨us, r1, p1, _⟩ := I.tuple ha
    obtain ⟨ws, r2, p2, _⟩ := I.tuple hb
    refine SeqAt.RcNeAt.tuples (e := atE ds es) (show s.heap.IsTuple a us.toArray from p1) (show s.heap.IsTuple b ws.toArray from p2) (by omega) (items r1 r2) _ _ _ _ ?_
    rw [all_T (hs.len.trans r1.length) (qs.len.trans r2.length)]
    exact ⟨.bl _, H, I, rfl, q⟩
  · obtain ⟨us, r1, p1, _⟩ := I.list ha
    obtain ⟨ws, r2, p2, _⟩ := I.list hb
    have z1 : us.toArray.size = ds.length := by have q1 := hs.len; have q3 := r1.length; simp; omega
    have z2 : ws.toArray.size = es.length := by have q1 := qs.len; have q3 := r2.length; simp; omega
    by_cases hl : ds.length = es.length
    · refine SeqAt.RcNeAt.lists (e := atE ds es) p1.isList p2.isList (by rw [z1, z2]; exact hl) (by omega) (items r1 r2) _ _ _ _ ?_
      have ev : (List.range us.toArray.size).all (atE ds es) = eqDs ds es := by
        rw [z1, ← eqDs_all ds es hl]
        rfl
      rw [ev]
      exact ⟨.bl _, H, I, rfl, q⟩
    · refine SeqAt.RcNeAt.lists_lengths p1.isList p2.isList (by rw [z1, z2]; exact bne_iff_ne.mpr hl) (by omega) _ _ _ _ ?_
      have ev : true = !eqDs ds es := by rw [eqDs_len ds es hl]; rfl
      rw [ev]
      exact ⟨.bl _, H, I, rfl, q⟩
end
end L2
set_option Elab.async false
set_option linter.all false
set_option maxRecDepth 100000
set_option maxHeartbeats 4000000
namespace L2
open PySem PySem.Spec PyProof.Rows

/-! ### the cells that a comprehension's block takes over -/
theorem clos_loop (env : Env) : ∀ (names : List (Str × NameKind)) (cs : List (Str × Addr)), (∀ x, (x, NameKind.free) ∈ names → ∃ c, env.cells.lookup x = some c) →
    (∀ x c, cs.lookup x = some c → env.cells.lookup x = some c) →
    ∃ cl : List (Str × Addr), (forIn names cs fun (x : Str × NameKind) (r : List (Str × Addr)) => if (x.snd == NameKind.free) = true then do let a ← cellOf env x.fst; pure (ForInStep.yield ((x.fst, a) :: r)) else (pure (ForInStep.yield r) : Sem _)) = (pure cl : Sem _) ∧
      (∀ x c, cl.lookup x = some c → env.cells.lookup x = some c) ∧ ∀ x, ((x, NameKind.free) ∈ names ∨ ∃ c, cs.lookup x = some c) → ∃ c, cl.lookup x = some c
  | [], cs, _, h2 => ⟨cs, rfl, h2, fun x hx => hx.elim (fun z => nomatch z) fun z => z⟩
  | (n, k) :: r, cs, h1, h2 => by
    cases hk : (k == NameKind.free) with
    | true =>
      have ek : k = .free := by simpa using hk
      subst ek
      obtain ⟨c, hc⟩ := h1 n List.mem_cons_self
      obtain ⟨cl, e, a, b⟩ := clos_loop env r ((n, c) :: cs) (fun x hx => h1 x (List.mem_cons_of_mem _ hx)) (fun x d hd => by
        rw [List.lookup_cons] at hd
        cases hx : x == n with
        | true =>
          rw [hx] at hd
          have : x = n := by simpa using hx
          subst this
          cases hd
          exact hc
        | false => rw [hx] at hd; exact h2 x d hd)
      refine ⟨cl, ?_, a, fun x hx => b x ?_⟩
      · rw [← e, List.forIn_cons]
        have hcell : cellOf env n = pure c := by unfold cellOf; rw [hc]
        simp only [hk, if_true]
        rw [hcell]
        rfl
      · rcases hx with hx | ⟨d, hd⟩
        · rcases List.mem_cons.mp hx with q | q
          · cases q
            exact .inr ⟨c, by rw [List.lookup_cons]; simp⟩
          · exact .inl q
        · refine .inr ?_
          rw [List.lookup_cons]
          cases hx : x == n with
          | true => exact ⟨c, rfl⟩
          | false => exact ⟨d, hd⟩
    | false =>
      obtain ⟨cl, e, a, b⟩ := clos_loop env r cs (fun x hx => h1 x (List.mem_cons_of_mem _ hx)) h2
      refine ⟨cl, ?_, a, fun x hx => b x ?_⟩
      · rw [← e, List.forIn_cons]
        simp only [hk, Bool.false_eq_true, if_false]
        rfl
      · rcases hx with hx | hx
        · rcases List.mem_cons.mp hx with q | q
          · cases q
            simp at hk
          · exact .inl q
        · exact .inr hx
theorem clos_ok {scope : Scope} {env : Env} (h1 : ∀ x, (x, NameKind.free) ∈ scope.names → ∃ c, env.cells.lookup x = some c) :
    ∃ cl : List (Str × Addr), closureFor scope env = pure cl ∧ (∀ x c, cl.lookup x = some c → env.cells.lookup x = some c) ∧ ∀ x, (x, NameKind.free) ∈ scope.names → ∃ c, cl.lookup x = some c := by
  obtain ⟨cl, e, a, b⟩ := clos_loop env scope.names [] h1 (fun x c h => by simp at h)
  refine ⟨cl, ?_, a, fun x hx => b x (.inl hx)⟩
  simp only [closureFor]
  rw [e]
  rfl

/-! ### the block's context -/
def Cx.comp (X : Cx) (sc : Scope) (cl : List (Str × Addr)) (C : Addr) (N : List Str) (s : Shared) (H : Hp) (fp : List Addr) : Cx :=
  { X with N := N, s₀ := s, H₀ := H, env := compEnvC sc cl C X.env, outer := X.stack, ex := fp, fn := fun _ => false, pn := [], xe := fun _ _ => False }
/-- what is asked of the block's names: t the loop's own, ys those of the def about it, which stand there at the places js -/
def compChk (N : List Str) (osc sc : Scope) (t : Str) (ys : List Str) (js : List Nat) : Bool :=
  sc.kind == .function && sc.names.all (fun y => y.2 != .cell) && sc.names.all (fun y => y.2 != .local || sc.names.lookup y.1 == some .local) &&
  sc.names.all (fun y => y.2 != .free || osc.names.lookup y.1 == some .cell) && (ys.map some == js.map fun j => N[j]?) &&
  ys.all (fun y => sc.names.lookup y == some .free) && sc.names.lookup t == some .local && decide ((t :: ys).Nodup)
structure CompOk (N : List Str) (osc sc : Scope) (t : Str) (ys : List Str) (js : List Nat) : Prop where
  kind : sc.kind = .function
  ncell : ∀ y ∈ sc.names, y.2 ≠ .cell
  loc : ∀ y ∈ sc.names, y.2 = .local → sc.names.lookup y.1 = some .local
  fre : ∀ y ∈ sc.names, y.2 = .free → osc.names.lookup y.1 = some .cell
  ysj : ys.map some = js.map fun j => N[j]?
  ysf : ∀ y ∈ ys, sc.names.lookup y = some .free
  tl : sc.names.lookup t = some .local
  nd : (t :: ys).Nodup
theorem compOk_of {N : List Str} {osc sc : Scope} {t : Str} {ys : List Str} {js : List Nat} (h : compChk N osc sc t ys js = true) : CompOk N osc sc t ys js := by
  unfold compChk at h
  simp only [Bool.and_eq_true, List.all_eq_true, decide_eq_true_eq, Bool.or_eq_true, bne_iff_ne, beq_iff_eq] at h
  obtain ⟨⟨⟨⟨⟨⟨⟨a, b⟩, c⟩, d⟩, e⟩, f⟩, g⟩, i⟩ := h
  exact ⟨a, fun y hy => b y hy, fun y hy z => (c y hy).resolve_left fun q => q z, fun y hy z => (d y hy).resolve_left fun q => q z, e, f, g, i⟩
def compS (js : List Nat) (σ : St) : St := js.map fun j => (σ[j]?).join

theorem relabel_inv {env : Env} {x : Str} : ∀ {names : List (Str × NameKind)} {k : NameKind}, (names.map fun (n, k) => if (k == NameKind.free && env.scope.kind == .function && env.kindOf n == some .cell) then (n, NameKind.cell) else (n, k)).lookup x = some k →
    names.lookup x = some k ∨ (k = .cell ∧ names.lookup x = some .free)
  | [], _, h => by simp at h
  | (n, q) :: r, k, h => by
    have ih := @relabel_inv env x r k
    have h' : List.lookup x ((if (q == NameKind.free && env.scope.kind == .function && env.kindOf n == some .cell) = true then (n, NameKind.cell) else (n, q)) :: _) = some k := h
    cases hx : x == n with
    | true =>
      by_cases hc : (q == NameKind.free && env.scope.kind == .function && env.kindOf n == some .cell) = true
      · rw [if_pos hc] at h'
        simp only [List.lookup_cons, hx] at h' ⊢
        have eq : q = .free := by simp only [Bool.and_eq_true, beq_iff_eq] at hc; exact hc.1.1
        cases h'
        exact .inr ⟨rfl, by rw [eq]⟩
      · rw [if_neg hc] at h'
        simp only [List.lookup_cons, hx] at h' ⊢
        exact .inl h'
    | false =>
      by_cases hc : (q == NameKind.free && env.scope.kind == .function && env.kindOf n == some .cell) = true
      · rw [if_pos hc] at h'
        simp only [List.lookup_cons, hx] at h' ⊢
        exact ih h'
      · rw [if_neg hc] at h'
        simp only [List.lookup_cons, hx] at h' ⊢
        exact ih h'
theorem relabel_free {env : Env} {x : Str} : ∀ {names : List (Str × NameKind)}, names.lookup x = some .free →
    (names.map fun (n, k) => if (k == NameKind.free && env.scope.kind == .function && env.kindOf n == some .cell) then (n, NameKind.cell) else (n, k)).lookup x = some .cell ∨
    (names.map fun (n, k) => if (k == NameKind.free && env.scope.kind == .function && env.kindOf n == some .cell) then (n, NameKind.cell) else (n, k)).lookup x = some .free
  | [], h => by simp at h
  | (n, q) :: r, h => by
    have ih := @relabel_free env x r
    show List.lookup x ((if (q == NameKind.free && env.scope.kind == .function && env.kindOf n == some .cell) = true then (n, NameKind.cell) else (n, q)) :: _) = some .cell ∨ List.lookup x ((if (q == NameKind.free && env.scope.kind == .function && env.kindOf n == some .cell) = true then (n, NameKind.cell) else (n, q)) :: _) = some .free
    cases hx : x == n with
    | true =>
      simp only [List.lookup_cons, hx] at h
      cases h
      by_cases hc : (NameKind.free == NameKind.free && env.scope.kind == .function && env.kindOf n == some .cell) = true
      · rw [if_pos hc]; exact .inl (by simp only [List.lookup_cons, hx])
      · rw [if_neg hc]; exact .inr (by simp only [List.lookup_cons, hx])
    | false =>
      simp only [List.lookup_cons, hx] at h
      by_cases hc : (q == NameKind.free && env.scope.kind == .function && env.kindOf n == some .cell) = true
      · rw [if_pos hc]; simp only [List.lookup_cons, hx]; exact ih h
      · rw [if_neg hc]; simp only [List.lookup_cons, hx]; exact ih h

/-! ### the tests of a clause -/
def PIf (X : Cx) (ifs : List Expr) (t : TT) : Prop :=
  ∀ (pins : List (Addr × Obj)) (s : Shared) (σ : St) (H : Hp) (Q : Bool → Hp → Prop), Inv X pins σ H s → t σ H Q →
    wpAny (model X.prog X.w) X.A (forIn ifs true fun c r => if r = true then do let ok ← isTrue c X.env (eval c X.env); pure (ForInStep.yield ok) else pure (ForInStep.yield r)) (TP X pins σ Q) X.xe s
def tYes : TT := fun _ H Q => Q true H
theorem pif_nil {X : Cx} : PIf X [] tYes := fun _ _ _ H _ I h => wpAny_tests_nil ⟨H, I, h⟩
theorem pif_one {X : Cx} {c : Expr} {t : TT} (h : PT X c t) : PIf X [c] t := fun pins s σ H Q I q => wpAny_tests_one (h pins s σ H Q I q)

/-! ### the block's loop, where nothing raises -/
theorem comp_turns {prog : Program} {w : World} {A : Around} {R : Result → Shared → Prop} {s : Shared} {elt target iter : Expr} {ifs : List Expr} {scope : Scope} {pos : Pos} {it acc : Value} {env : Env} (J : Nat → Shared → Prop)
    (turn : ∀ n s0, J n s0 → wpAny (model prog w) A (pyNext it) (fun r s1 => match r with
      | none => R (.ok .next) s1
      | some v => wpAny (model prog w) A (letOwnedTupleGo target it v) (fun _ s2 => wpAny (model prog w) A (assign target env v) (fun _ s3 =>
          wpAny (model prog w) A (forIn ifs true fun c r => if r = true then do let ok ← isTrue c env (eval c env); pure (ForInStep.yield ok) else pure (ForInStep.yield r)) (fun ok s4 =>
            if ok = true then wpAny (model prog w) A (eval elt env) (fun x s5 =>
              wpAny (model prog w) A (call (.builtin "list.append") [acc, x]) (fun _ s6 => ∃ m, m < n ∧ J m s6) (fun _ _ => False) s5) (fun _ _ => False) s4
            else ∃ m, m < n ∧ J m s4) (fun _ _ => False) s3) (fun _ _ => False) s2) (fun _ _ => False) s1) (fun _ _ => False) s0)
    (n : Nat) (h : J n s) : codeAny (model prog w) A (.compLoop (.ListComp elt [⟨target, iter, ifs, 0⟩] scope pos) 0 it acc env) R s := by
  have up : ∀ {α : Type} {t : Sem α} {Q Q' : α → Shared → Prop} {E : Value → Shared → Prop} {s0 : Shared}, wpAny (model prog w) A t Q (fun _ _ => False) s0 → (∀ a s', Q a s' → Q' a s') → wpAny (model prog w) A t Q' E s0 :=
    fun h0 hq => wpAny_mono h0 hq fun _ _ z => z.elim
  refine codeAny_loop rfl J ?_ n h
  intro k s0 hJ
  show wpAny _ A ((compTurn (.ListComp elt [⟨target, iter, ifs, 0⟩] scope pos) 0 it acc env).onRaise (fun x => do noteFrame x env; theTreesLotGoes x)) _ _ s0
  refine wpAny_noted ?_
  rw [compTurn_list]
  refine wpAny_bind (wpAny_standAt (wpAny_bind (up (turn k s0 hJ) fun r s1 h1 => ?_)))
  cases r with
  | none => exact wpAny_pure h1
  | some v =>
    refine wpAny_bind (up h1 fun _ s2 h2 => wpAny_bind (up h2 fun _ s3 h3 => wpAny_bind (up h3 fun ok s4 h4 => ?_)))
    cases ok with
    | false => exact wpAny_pure ⟨rfl, h4⟩
    | true => exact wpAny_bind (wpAny_bind (up h4 fun x s5 h5 => wpAny_bind (up h5 fun _ s6 h6 => wpAny_pure (wpAny_pure ⟨rfl, h6⟩))))

/-! ### the rule -/
def CompW (J : It) (js : List Nat) (tc : TT) (te : TE) (σ : St) (Q : VK) (D : Addr) (H1 : Hp) : Prop := ∃ W : Nat → Nat → List V → Hp → Prop, (∃ m, W 0 m [] (upd H1 D (.lst []))) ∧
  ∀ i m acc H, W i m acc H → H D = some (.lst acc) ∧ acc.length < sizeLine ∧ ((J.stop i H ∧ Q (.ref D) H) ∨ (J.go i H ∧ ∀ x H', J.yld i H x H' → tc (some x :: compS js σ) H' fun c H3 =>
    if c = true then te (some x :: compS js σ) H3 fun y H4 => H4 D = some (.lst acc) ∧ ∃ m', m' < m ∧ W (i + 1) m' (acc ++ [y]) (upd H4 D (.lst (acc ++ [y]))) else ∃ m', m' < m ∧ W (i + 1) m' acc H3))
def tComp (wi : TI) (js : List Nat) (tc : TT) (te : TE) : TE := fun σ H Q => wi σ H fun J H1 => ∀ D, H1 D = none → CompW J js tc te σ Q D H1

theorem pe_comp {X : Cx} {elt iter : Expr} {ifs : List Expr} {sc : Scope} {pos px : Pos} {t : Str} {ys : List Str} {js : List Nat} {wi : TI} {tc : TT} {te : TE} (hc : X.calm = true) (hck : compChk X.N X.env.scope sc t ys js = true)
    (hi : PI X (.Name t px) iter wi) (hf : ∀ cl C s H fp, PIf (X.comp sc cl C (t :: ys) s H fp) ifs tc) (he : ∀ cl C s H fp, PE (X.comp sc cl C (t :: ys) s H fp) elt te)
    (hs : ∀ x, foldedSetIterable iter X.env x = pure x := by intro _; rfl) : PE X (.ListComp elt [⟨.Name t px, iter, ifs, 0⟩] sc pos) (tComp wi js tc te) := by
  have ck := compOk_of hck
  intro pins s σ H Q I h
  have hfr : ∀ x, (x, NameKind.free) ∈ sc.names → ∃ c, X.env.cells.lookup x = some c := fun x hx => I.ok.has x (.inl (ck.fre _ hx rfl))
  obtain ⟨cl, hcl, cl1, cl2⟩ := clos_ok hfr
  rw [eval_ListComp]
  refine wpAny_comprehension_free (use := none) rfl hs hcl ck.kind ck.loc (thn (hi pins s σ H _ I h) fun v s1 h1 => thn h1 fun itv s2 h2 => ?_)
  obtain ⟨it, fp, tn, J, H2, e, I2, T, st2, f2, hR⟩ := h2
  subst e
  refine wpAny_newObj_type (wpAny_newFunctionEnv ck.ncell (by intro y hy; simp at hy) (fun h1 hns hsb => ?_) ck.kind)
  dsimp only at hns hsb ⊢
  generalize hp : s2.heap.push { cls := .type "list", dict := none, data := .seq ([] : List Value).toArray } = hh at hns hsb ⊢
  have hC : hh.objs.size = s2.heap.objs.size + 1 := by rw [← hp, Heap.size_push]
  have neD : ∀ {b : Addr}, b < s2.heap.objs.size → b ≠ s2.heap.objs.size := fun hb => Nat.ne_of_lt hb
  have neC : ∀ {b : Addr}, b < s2.heap.objs.size → b ≠ hh.objs.size := fun hb => by rw [hC]; exact Nat.ne_of_lt (Nat.lt_succ_of_lt hb)
  have hDC : s2.heap.objs.size ≠ hh.objs.size := by rw [hC]; exact Nat.ne_of_lt (Nat.lt_succ_self _)
  have hCle : s2.heap.objs.size ≤ hh.objs.size := by rw [hC]; exact Nat.le_succ _
  have old : ∀ b o, s2.heap.get? b = some o → h1.get? b = some o := fun b o e => hsb.extBut b o (neC (Heap.lt_size e)) (Heap.get?_push_of_some _ (hp ▸ Heap.get?_push_of_some _ e))
  have hnew : h1.get? s2.heap.objs.size = some { cls := .type "list", dict := none, data := .seq ([] : List Value).toArray } := hsb.extBut _ _ hDC (Heap.get?_push_of_some _ (hp ▸ Heap.get?_push_size _ rfl))
  have fpH : ∀ b ∈ fp, ∃ o, s2.heap.get? b = some o := fun b hb => let ⟨o, e, _⟩ := T.obj 0 _ st2 b hb; ⟨o, e⟩
  have fpD : ∀ b ∈ fp, b ≠ s2.heap.objs.size := fun b hb => by obtain ⟨o, e⟩ := fpH b hb; exact neD (Heap.lt_size e)
  have fpC : ∀ b ∈ fp, b ≠ hh.objs.size := fun b hb => by obtain ⟨o, e⟩ := fpH b hb; exact neC (Heap.lt_size e)
  have fpS : ∀ b ∈ fp, b ∉ frs X.stack := fun b hb z => (List.mem_cons.mp (I2.stkSub b z)).elim (f2 b hb).2.1 (f2 b hb).2.2.1
  have hok' : (X.comp sc cl hh.objs.size (t :: ys) s2 H2 fp).Ok := by
    refine ⟨I2.ok.mod, ck.kind, I2.ok.glob, I2.ok.blt, hCle, fun x y c a b => I2.ok.inj x y c (cl1 x c a) (cl1 y c b), fun x hx => ?_, (fun x c z => nomatch z), I2.ok.hd, I2.ok.frames, .inl rfl, fun b hb => ⟨fpC b hb, fun x c a => (f2 b hb).2.2.2.2.1 x c (cl1 x c a)⟩,
      I2.bs, Nat.le_trans I2.ok.bsz I2.sz, fun b o e hb => ?_, fun b hb => fpS b hb, I2.stack, I2.stkFree⟩
    · have hx' : (sc.names.map fun (n, k) => if (k == NameKind.free && X.env.scope.kind == .function && X.env.kindOf n == some .cell) then (n, NameKind.cell) else (n, k)).lookup x = some .cell ∨ (sc.names.map fun (n, k) => if (k == NameKind.free && X.env.scope.kind == .function && X.env.kindOf n == some .cell) then (n, NameKind.cell) else (n, k)).lookup x = some .free := hx
      rcases hx' with z | z
      · rcases relabel_inv z with q | ⟨_, q⟩
        · exact absurd rfl (ck.ncell _ (PySem.mem_of_lookup q))
        · exact cl2 x (PySem.mem_of_lookup q)
      · rcases relabel_inv z with q | ⟨q, _⟩
        · exact cl2 x (PySem.mem_of_lookup q)
        · cases q
    · rcases (f2 b hb).2.2.2.1 with z | z
      · exact I2.ok.noex b o e z
      · exact absurd (Nat.lt_of_lt_of_le (Heap.lt_size e) (Nat.le_trans I2.ok.bsz z)) (Nat.lt_irrefl _)
  have Iin : ∀ tk : Nat, Inv (X.comp sc cl hh.objs.size (t :: ys) s2 H2 fp) [] (none :: compS js σ) (upd H2 s2.heap.objs.size (.lst [])) { s2 with heap := h1, toks := tk } := fun tk => by
    refine ⟨hok', rfl, I2.bare, Un.laid old (Nat.le_refl _) I2.fresh, ⟨_, hns, fun i x v e1 e2 e3 => ?_⟩, fun x c e => ?_, ?_, fun x c e => ?_, fun p hp => absurd (show p ∈ ([] : List (Addr × Obj)) from hp) (by simp), I2.hok.laid old (Nat.le_refl _) ⟨Nat.zero_le _, [], 0, .nil, hnew⟩, ?_⟩
    · cases i with
      | zero => simp at e2
      | succ k =>
        have e1' : ys[k]? = some x := e1
        have e2' : (compS js σ)[k]? = some (some v) := by simpa using e2
        unfold compS at e2'
        rw [List.getElem?_map] at e2'
        have q := congrArg (fun l => l[k]?) ck.ysj
        simp only [List.getElem?_map, e1', Option.map_some] at q
        cases hj : js[k]? with
        | none => rw [hj] at q; cases q
        | some j =>
          rw [hj] at q e2'
          have q1 : X.N[j]? = some x := (Option.some.inj q).symm
          have q2 : σ[j]? = some (some v) := by
            have z : (σ[j]?).join = some v := Option.some.inj e2'
            cases hz : σ[j]? with
            | none => rw [hz] at z; cases z
            | some y => rw [hz] at z; exact congrArg some z
          have hf' := ck.ysf x (List.mem_of_getElem? e1')
          have hcell := ck.fre _ (PySem.mem_of_lookup hf') rfl
          obtain ⟨m2, hn2, hl2⟩ := I2.loc
          obtain ⟨u, ru, lk⟩ := hl2 j x v q1 q2 (.inr (.inl hcell))
          refine ⟨u, ru, ?_⟩
          rcases lk with ⟨kk, _⟩ | ⟨_, c, ec, ic⟩
          · have kk' : X.env.scope.names.lookup x = some .local := kk
            have hcell' : X.env.scope.names.lookup x = some .cell := hcell
            rw [hcell'] at kk'; cases kk'
          · obtain ⟨c', ec'⟩ := cl2 x (PySem.mem_of_lookup hf')
            have : c' = c := Option.some.inj ((cl1 x c' ec').symm.trans ec)
            subst this
            refine .inr ⟨relabel_free hf', c', ec', ?_⟩
            obtain ⟨o, ho, hd⟩ := ic
            exact ⟨o, old _ o ho, hd⟩
    · obtain ⟨v, o, ho, hd⟩ := I2.cell x c (cl1 x c e)
      exact ⟨v, o, old _ o ho, hd⟩
    · show upd H2 s2.heap.objs.size _ hh.objs.size = none
      rw [upd_ne (Ne.symm hDC)]
      exact I2.hok.fresh hCle
    · obtain ⟨v, o, ho, hd⟩ := I2.cell x c (cl1 x c e)
      rw [upd_ne (neD (Heap.lt_size ho))]
      exact I2.freeC x c (cl1 x c e)
    · show (none :: compS js σ).length = (t :: ys).length
      have q := congrArg List.length ck.ysj
      simp only [List.length_map] at q
      unfold compS
      simp only [List.length_cons, List.length_map]
      omega
  have st1 : tn 0 h1 := T.keep _ _ _ st2 fun b hb o e => old b o e
  obtain ⟨W, ⟨m0, w0⟩, turn⟩ := hR s2.heap.objs.size I2.fresh
  have fpok : ∀ {H' : Hp}, (∀ b ∈ fp, H' b = none) → ∀ b ∈ fp, FpOk (X.comp sc cl hh.objs.size (t :: ys) s2 H2 fp) [] H' b := fun hn b hb =>
    ⟨hn b hb, fpC b hb, fpS b hb, .inl hb, fun x c a => (f2 b hb).2.2.2.2.1 x c (cl1 x c a), fun p hp => absurd (show p ∈ ([] : List (Addr × Obj)) from hp) (by simp)⟩
  have ndN : (t :: ys).Nodup := ck.nd
  have loop : ∀ s3 : Shared, s3 = { s2 with heap := h1, toks := s2.toks + ([] : List (Str × Value)).length } →
      codeAny (model X.prog X.w) X.A (.compLoop (.ListComp elt [⟨.Name t px, iter, ifs, 0⟩] sc pos) 0 (.ref it) (.ref s2.heap.objs.size) (compEnvC sc cl hh.objs.size X.env))
        (compPost (model X.prog X.w) X.A X.xe none (EP X pins σ Q) (.ref s2.heap.objs.size) hh.objs.size) s3 := by
    rintro s3 rfl
    refine comp_turns (fun n s' => ∃ i acc H', Inv (X.comp sc cl hh.objs.size (t :: ys) s2 H2 fp) [] (none :: compS js σ) H' s' ∧ tn i s'.heap ∧ (∀ b ∈ fp, H' b = none) ∧ W i n acc H') ?_ m0
      ⟨0, [], _, Iin _, st1, fun b hb => by rw [upd_ne (fpD b hb)]; exact (f2 b hb).1, w0⟩
    rintro n s3 ⟨i, acc, H3, I3, st3, fr3, w3⟩
    obtain ⟨hD, hz, alt⟩ := turn i n acc H3 w3
    rcases alt with ⟨stop, q⟩ | ⟨go, step⟩
    · refine thn (T.done (X.comp sc cl hh.objs.size (t :: ys) s2 H2 fp) rfl rfl rfl hc i [] s3 _ H3 _ I3 (fpok fr3) st3 stop) fun r s4 ⟨hr, I4⟩ => ?_
      subst hr
      obtain ⟨m, hn, _⟩ := id I4.loc
      refine ⟨m, hn, fun h' sb => ⟨.ref s2.heap.objs.size, H3, ?_, rfl, q⟩⟩
      have ltC : ∀ b o, s2.heap.get? b = some o → b ≠ hh.objs.size := fun b o e => neC (Heap.lt_size e)
      have b4 : Un (frs X.stack) fp H2 H3 s2.heap s4.heap := I4.base
      refine I2.call' (s' := { s4 with heap := h' }) (ch := fp) I4.os ⟨fun b o e n1 n2 n3 => (sb.2 b (ltC b o e)).trans (b4.keep b o e n1 n2 n3), fun b o e n1 n2 n3 => ?_, b4.free, fun b o e n1 => ?_, b4.tups, b4.frzs, b4.tbls⟩ (fun b ob e => ?_) I4.bare
        (fun b hb => ⟨(f2 b hb).2.2.2.1, (f2 b hb).2.1, (f2 b hb).2.2.2.2.1, (f2 b hb).2.2.2.2.2⟩)
      · obtain ⟨sl, e1⟩ := b4.slot b o e n1 n2 n3
        exact ⟨sl, (sb.2 b (ltC b o e)).trans e1⟩
      · obtain ⟨o', e1⟩ := b4.there b o e n1
        exact ⟨o', (sb.2 b (ltC b o e)).trans e1⟩
      · have hfree : H3 hh.objs.size = none := I4.free
        refine (I4.hok b ob e).stay (fun c w' hc' q' => (sb.2 c ?_).trans q') (fun _ q' => q') fun _ _ q' => q'
        rintro rfl
        rcases hc' with rfl | hc'
        · rw [hfree] at e; cases e
        · rw [hfree] at hc'; cases hc'
    · refine thn (T.item (X.comp sc cl hh.objs.size (t :: ys) s2 H2 fp) rfl rfl rfl hc i [] s3 _ H3 _ I3 (fpok fr3) st3 go) fun r s4 ⟨u, hr, h4⟩ => ?_
      subst hr
      refine thn h4 fun _ s5 ⟨x, H5, I5, r5, y5, st5, fr5⟩ => ?_
      have I5' := I5.pinned (fpok fr5) (T.obj _ _ st5)
      refine wpAny_assign_Name (store_ok (i := 0) I5' ndN rfl (.inl (lookup_relabel_local ck.tl)) r5 (fun s6 I6 => ?_) (.inr (lookup_relabel_local ck.tl)))
      have again : ∀ {H7 : Hp} {s7 : Shared} {m' : Nat} {acc' : List V}, Inv (X.comp sc cl hh.objs.size (t :: ys) s2 H2 fp) ([] ++ pinsAt fp s5.heap) (some x :: compS js σ) H7 s7 → m' < n → W (i + 1) m' acc' H7 →
          ∃ m, m < n ∧ ∃ i acc H', Inv (X.comp sc cl hh.objs.size (t :: ys) s2 H2 fp) [] (none :: compS js σ) H' s7 ∧ tn i s7.heap ∧ (∀ b ∈ fp, H' b = none) ∧ W i m acc H' := fun {H7 s7 m' acc'} I7 hm w7 => by
        refine ⟨m', hm, i + 1, acc', H7, (I7.unpinned).weak rfl (fun k v e => ?_), T.keep _ _ _ st5 fun b hb o e => (I7.pin (b, o) (List.mem_append_right _ (List.mem_append_right _ (mem_pinsAt hb e)))).1, fun b hb => ?_, w7⟩
        · cases k with
          | zero => simp at e
          | succ k => simpa using e
        · obtain ⟨o, e, d⟩ := T.obj _ _ st5 b hb
          exact (I7.pin (b, o) (List.mem_append_right _ (List.mem_append_right _ (mem_pinsAt hb e)))).2.1
      refine thn (hf _ _ _ _ _ _ s6 _ H5 _ I6 (step x H5 y5)) fun ok s7 ⟨H7, I7, q7⟩ => ?_
      cases ok with
      | false =>
        obtain ⟨m', hm, w7⟩ := q7
        exact again I7 hm w7
      | true =>
        refine thn (he _ _ _ _ _ _ s7 _ H7 _ I7 q7) fun uy s8 ⟨y, H8, I8, r8, hD8, m', hm, w8⟩ => ?_
        refine thn (mt_append (X := X.comp sc cl hh.objs.size (t :: ys) s2 H2 fp) _ s8 _ H8 (.ref s2.heap.objs.size) [y] (.ref s2.heap.objs.size) [uy] (fun _ H9 => W (i + 1) m' (acc ++ [y]) H9) I8 rfl (.cons r8 .nil) ⟨_, acc, y, rfl, rfl, hD8, hz, w8⟩) fun _ s9 ⟨_, H9, I9, _, q9⟩ => ?_
        exact again I9 hm q9
  exact codeAny_compStart_list (loop _ rfl) (T.self _ 0 _ _ _ st1 (loop _ rfl))
/-! ### the forms one uses: no test, the source stays as it is -/
/-- te only asks its end through what it gives -/
def MonoE (te : TE) : Prop := ∀ σ H Q Q', (∀ v H', Q v H' → Q' v H') → te σ H Q → te σ H Q'
theorem cstep {n i m : Nat} {A B : Prop} (hi : i < n) (hm : m = n - i) (a : A) (b : B) : A ∧ ∃ m', m' < m ∧ (m' = n - (i + 1) ∧ i + 1 ≤ n ∧ B) := ⟨a, n - (i + 1), by omega, rfl, hi, b⟩
theorem comp_rng {lo : Int} {n : Nat} {js : List Nat} {te : TE} {σ : St} {Q : VK} {D : Addr} {H1 : Hp} (Pv : Nat → List V → Hp → Prop) (hz : n < sizeLine) (h0 : Pv 0 [] (upd H1 D (.lst [])))
    (hl : ∀ i acc H, Pv i acc H → H D = some (.lst acc) ∧ acc.length = i)
    (hs : ∀ i m acc H, i < n → Pv i acc H → m = n - i → te (some (.int (lo + i)) :: compS js σ) H fun y H4 => H4 D = some (.lst acc) ∧ ∃ m', m' < m ∧ (m' = n - (i + 1) ∧ i + 1 ≤ n ∧ Pv (i + 1) (acc ++ [y]) (upd H4 D (.lst (acc ++ [y])))))
    (hd : ∀ acc H, Pv n acc H → Q (.ref D) H) : CompW (Itr lo n) js tYes te σ Q D H1 := by
  refine ⟨fun i m acc H => m = n - i ∧ i ≤ n ∧ Pv i acc H, ⟨n, by simp, Nat.zero_le _, h0⟩, ?_⟩
  rintro i m acc H ⟨hm, hi, p⟩
  obtain ⟨hD, hlen⟩ := hl i acc H p
  refine ⟨hD, by omega, ?_⟩
  by_cases hlt : i < n
  · refine .inr ⟨hlt, fun x H' y => ?_⟩
    obtain ⟨e, y⟩ := y
    subst e y
    unfold tYes
    dsimp only
    rw [if_pos rfl]
    exact hs i m acc _ hlt p hm
  · have e : i = n := by omega
    subst e
    exact .inl ⟨Nat.le_refl _, hd acc H p⟩
theorem comp_lst {K : PySem.W.Frag} {a : Addr} {xs : List V} {js : List Nat} {te : TE} {σ : St} {Q : VK} {D : Addr} {H1 : Hp} (Pv : Nat → List V → Hp → Prop) (hz : xs.length < sizeLine) (h0 : Pv 0 [] (upd H1 D (.lst [])))
    (hl : ∀ i acc H, Pv i acc H → H D = some (.lst acc) ∧ acc.length = i ∧ SqL K H a xs)
    (hs : ∀ i m x acc H, xs[i]? = some x → Pv i acc H → m = xs.length - i → te (some x :: compS js σ) H fun y H4 => H4 D = some (.lst acc) ∧ ∃ m', m' < m ∧ (m' = xs.length - (i + 1) ∧ i + 1 ≤ xs.length ∧ Pv (i + 1) (acc ++ [y]) (upd H4 D (.lst (acc ++ [y])))))
    (hd : ∀ acc H, Pv xs.length acc H → Q (.ref D) H) : CompW (Itl K a) js tYes te σ Q D H1 := by
  refine ⟨fun i m acc H => m = xs.length - i ∧ i ≤ xs.length ∧ Pv i acc H, ⟨xs.length, by simp, Nat.zero_le _, h0⟩, ?_⟩
  rintro i m acc H ⟨hm, hi, p⟩
  obtain ⟨hD, hlen, hq⟩ := hl i acc H p
  refine ⟨hD, by omega, ?_⟩
  by_cases hlt : i < xs.length
  · refine .inr ⟨⟨xs, xs[i], hq, by simp [hlt]⟩, fun x H' y => ?_⟩
    obtain ⟨e, y⟩ := y
    subst e
    unfold tYes
    dsimp only
    rw [if_pos rfl]
    exact hs i m x acc _ (y xs hq) p hm
  · have e : i = xs.length := by omega
    subst e
    exact .inl ⟨⟨xs, hq, Nat.le_refl _⟩, hd acc H p⟩
theorem comp_tpl {K : PySem.W.Frag} {a : Addr} {xs : List V} {js : List Nat} {te : TE} {σ : St} {Q : VK} {D : Addr} {H1 : Hp} (Pv : Nat → List V → Hp → Prop) (hz : xs.length < sizeLine) (h0 : Pv 0 [] (upd H1 D (.lst [])))
    (hl : ∀ i acc H, Pv i acc H → H D = some (.lst acc) ∧ acc.length = i ∧ SqT K H a xs)
    (hs : ∀ i m x acc H, xs[i]? = some x → Pv i acc H → m = xs.length - i → te (some x :: compS js σ) H fun y H4 => H4 D = some (.lst acc) ∧ ∃ m', m' < m ∧ (m' = xs.length - (i + 1) ∧ i + 1 ≤ xs.length ∧ Pv (i + 1) (acc ++ [y]) (upd H4 D (.lst (acc ++ [y])))))
    (hd : ∀ acc H, Pv xs.length acc H → Q (.ref D) H) : CompW (Itt K a) js tYes te σ Q D H1 := by
  refine ⟨fun i m acc H => m = xs.length - i ∧ i ≤ xs.length ∧ Pv i acc H, ⟨xs.length, by simp, Nat.zero_le _, h0⟩, ?_⟩
  rintro i m acc H ⟨hm, hi, p⟩
  obtain ⟨hD, hlen, hq⟩ := hl i acc H p
  refine ⟨hD, by omega, ?_⟩
  by_cases hlt : i < xs.length
  · refine .inr ⟨⟨xs, xs[i], hq, by simp [hlt]⟩, fun x H' y => ?_⟩
    obtain ⟨e, y⟩ := y
    subst e
    unfold tYes
    dsimp only
    rw [if_pos rfl]
    exact hs i m x acc _ (y xs hq) p hm
  · have e : i = xs.length := by omega
    subst e
    exact .inl ⟨⟨xs, hq, Nat.le_refl _⟩, hd acc H p⟩
end L2
set_option Elab.async false
set_option linter.all false
set_option maxRecDepth 100000
set_option maxHeartbeats 4000000
namespace L2
open PySem PySem.Spec PyProof.Rows
section
variable {X : Cx}
/-! ### a slice of a text -/
def rSlS : V → Option Int → Option Int → Hp → VK → Prop := fun x lo hi H Q => ∃ z, x = .str z ∧ z.length ≤ sizeLine ∧ Q (.str (Txt.slice z lo hi)) H
theorem sl_str : SlR X rSlS := by
  intro pins s σ H x v vl vu lo hi sl Q I rx hs pl pu h
  obtain ⟨z, rfl, hz, q⟩ := h
  obtain ⟨t, rfl⟩ := rx
  have fin : ∀ (c : Prop) [Decidable c] (y w : Str), (if c then y else w) = Txt.slice z lo hi → (if c then Made.val (.str y t) else Made.str w).post (EP X pins σ Q) s := fun c _ y w e =>
    post_val_or_str ⟨by rw [e]; exact Nat.le_trans (Txt.slice_le z _ _) hz, fun t' k => by rw [e]; exact ⟨.str _, H, I.tok k, ⟨t', rfl⟩, q⟩⟩
  refine ⟨"str", _, F.slot_str_getitem.lookup, typeIs_str _ _ _, ?_⟩
  cases pl with
  | none =>
    cases pu with
    | none => exact wpAny_getItem_str_slice (l := none) (u := none) (st := none) hs rfl (fin _ _ _ rfl)
    | int j tj => exact wpAny_getItem_str_slice (l := none) (u := some (j, tj)) (st := none) hs rfl (fin _ _ _ rfl)
  | int i ti =>
    cases pu with
    | none => exact wpAny_getItem_str_slice (l := some (i, ti)) (u := none) (st := none) hs rfl (fin _ _ _ rfl)
    | int j tj => exact wpAny_getItem_str_slice (l := some (i, ti)) (u := some (j, tj)) (st := none) hs rfl (fin _ _ _ rfl)
/-! ### sep.join(texts) -/
theorem strsAre_of : ∀ {ys : List Str} {us : List Value}, Vals (ys.map V.str) us → StrsAre us ys := by
  intro ys
  induction ys with
  | nil => intro us r; rw [List.map_nil] at r; cases r; exact .nil
  | cons n ns ih =>
    intro us r
    rw [List.map_cons] at r
    cases r with
    | cons r1 r2 =>
      obtain ⟨t, e⟩ := r1
      subst e
      exact .cons n t (ih r2)
def rJoin (K : PySem.W.Frag) : V → List V → Hp → VK → Prop := fun x vs H Q => ∃ z l ys, x = .str z ∧ vs = [.ref l] ∧ SqL K H l (ys.map V.str) ∧ (ys.map (·.length)).sum + ys.length * z.length ≤ 16777216 ∧ Q (.str (Txt.join z ys)) H
theorem mt_join : MtR X "str.join" (rJoin X.K) := by
  intro pins s σ H x vs v us Q I rx rv h
  obtain ⟨z, l, ys, rfl, rfl, hq, hz, q⟩ := h
  obtain ⟨t, rfl⟩ := rx
  obtain ⟨u, rfl, ru⟩ := rv.one
  cases ru
  obtain ⟨its, r, p, _⟩ := I.list hq
  exact join_list p.isList (strsAre_of (by simpa using r)) hz fun t' k => ⟨.str _, H, I.tok k, ⟨t', rfl⟩, q⟩
/-! ### range(n) as an object, list of it -/
theorem call_range1 : CallR X (.type "range") (fun xs H Q => ∃ n, xs = [.int n] ∧ ∀ p, H p = none → Q (.ref p) (upd H p (.rng 0 n))) := by
  intro pins s σ H xs us Q I r h
  obtain ⟨n, rfl, q⟩ := h
  obtain ⟨u, rfl, ru⟩ := vals1 r
  obtain ⟨t, rfl⟩ := ru
  refine call_range_1 ⟨.ref s.heap.objs.size, _, I.laid (o := .rng 0 n) (fun b ob q' => Heap.get?_push_of_some _ q') (Nat.le_refl _) ⟨_, _, _, Heap.get?_push_size _ rfl⟩, rfl, q _ I.fresh⟩
theorem vals_items : ∀ {vs : List V} {its : List Value}, vs.length = its.length → (∀ (j : Nat) (x : V) (u : Value), vs[j]? = some x → its[j]? = some u → RelV x u) → Vals vs its
  | [], [], _, _ => .nil
  | [], _ :: _, h, _ => by simp at h
  | _ :: _, [], h, _ => by simp at h
  | v :: vs, u :: its, h, f => .cons (f 0 v u rfl rfl) (vals_items (by simpa using h) fun j x w e1 e2 => f (j + 1) x w (by simpa using e1) (by simpa using e2))
theorem call_list_rng (hc : X.calm = true) : CallR X (.type "list") (fun xs H Q => ∃ p n, xs = [.ref p] ∧ H p = some (.rng 0 n) ∧ 0 ≤ n ∧ n ≤ 1000000 ∧ ∀ l, H l = none → Q (.ref l) (upd H l (.lst ((List.range n.toNat).map fun (i : Nat) => V.int (i : Int))))) := by
  intro pins s σ H xs us Q I r h
  obtain ⟨p, n, rfl, hp, h0, h1, q⟩ := h
  obtain ⟨u, rfl, ru⟩ := vals1 r
  cases ru
  obtain ⟨t, t', t'', e⟩ := I.hok p _ hp
  have hsz : Builtin.Range.rangeSize 0 n 1 = ((n.toNat : Nat) : Int) := by rw [rangeSize_one]; split <;> omega
  refine call_list_range (n := n.toNat) (I.ok.hd hc) e (small_one (by omega) (by omega) (by omega) (by omega)) hsz (by omega) fun h' tk acc' c' hk hS hacc => ?_
  have hlen : acc'.toList.length = n.toNat := by have := hacc.1; simpa using this
  refine ⟨.ref s.heap.objs.size, _, I.laid (o := .lst ((List.range n.toNat).map fun (i : Nat) => V.int (i : Int))) hk (Nat.le_refl _) ⟨?_, acc'.toList, c', vals_items (by simp [hlen]) (fun j x w e1 e2 => ?_), hS⟩, rfl, q _ I.fresh⟩
  · rw [List.length_map, List.length_range]
    have := line63
    rw [sizeLine_eq]
    omega
  · have e2' : acc'[j]? = some w := by simpa using e2
    obtain ⟨tt, ew⟩ := hacc.2 j w e2'
    rw [List.getElem?_map] at e1
    cases hj : (List.range n.toNat)[j]? with
    | none => rw [hj] at e1; cases e1
    | some k =>
      rw [hj] at e1
      obtain ⟨hl, ek⟩ := List.getElem?_eq_some_iff.mp hj
      rw [List.getElem_range] at ek
      subst ek
      cases e1
      exact ⟨tt, by rw [ew]; congr 1; omega⟩
/-! ### t + u of tuples, whatever they are -/
theorem same_new {H : Hp} {p : Addr} (h : H p = none) (o : HO) : Same H (upd H p o) := fun b u q => by rw [upd_ne (ne_of_none q h)]; exact q
theorem Same.tupS {K : PySem.W.Frag} {H H' : Hp} {a : Addr} {xs : List V} (e : Same H H') (h : SqT K H a xs) : SqT K H' a xs := by
  rcases h with (h | ⟨o, h⟩) | h
  · exact .inl (.inl (e _ _ h))
  · exact .inl (.inr ⟨o, e _ _ h⟩)
  · exact .inr h
def rCatA : R2 := fun x y H Q => ∃ a b xs ys, x = .ref a ∧ y = .ref b ∧ H a = some (.tup xs) ∧ H b = some (.tup ys) ∧ xs.length + ys.length ≤ sizeLine ∧
  ∀ p H', Same H H' → H' p = some (.tup (xs ++ ys)) → Q (.ref p) H'
theorem cat_tup0 {prog : Program} {w : World} {A : Around} {E : Value → Shared → Prop} {s : Shared} {t b : Addr} {vs ws : List Value} {Q : Value → Shared → Prop} (ht : IsTup s.heap t vs.toArray) (hb : IsTup s.heap b ws.toArray) (hv : vs = []) (h : Q (.ref b) s) :
    wpAny (model prog w) A (binaryOp .Add (.ref t) (.ref b)) Q E s := by
  obtain ⟨⟨cls, dd, data, sl⟩, ho, hc, n, hd⟩ := id ht
  obtain ⟨⟨cls2, dd2, data2, sl2⟩, ho2, hc2, n2, hd2⟩ := id hb
  simp only at hc hd hc2 hd2
  subst hc hd hc2 hd2
  refine concat_meets ⟨_, ho, rfl⟩ ⟨_, ho2, rfl⟩ noFill_tuple_add seq_tuple_add PySem.F.slot_tuple_add PySem.F.entry_tuple_add (PySem.F.args_tuple_add_2 _ _) (tuple_addW0 t b vs.toArray ws.toArray n n2 dd dd2 sl sl2 (by simp [hv])) ⟨ho, ho2, h⟩
theorem op_catA : OpR X (binaryOp .Add) rCatA := by
  intro pins s σ H x y v u Q I rx ry h
  obtain ⟨a, b, xs, ys, e1, e2, ha, hb, hz, q⟩ := h
  by_cases hx : xs = []
  · subst e1 e2 hx
    cases rx
    cases ry
    obtain ⟨its, r1, p1, _⟩ := I.tuple (.of ha)
    obtain ⟨its2, r2, p2, _⟩ := I.tuple (.of hb)
    exact cat_tup0 p1 p2 (by cases r1; rfl) ⟨.ref b, H, I, rfl, q b H (Same.refl H) hb⟩
  · refine op_catT pins s σ H x y v u Q I rx ry ⟨a, b, xs, ys, e1, e2, .of ha, .of hb, hx, hz, fun hy => q a H (Same.refl H) (by rw [hy, List.append_nil]; exact ha), fun _ p hp => q p _ (same_new hp _) upd_same⟩
/-! ### t[lo:hi], the whole too -/
theorem getItem_tuple_whole {prog : Program} {w : World} {A : Around} {E : Value → Shared → Prop} {s : Shared} {t sl : Addr} {items : Array Value} {vl vu : Value} {lo hi : Option Int} {Q : Value → Shared → Prop} (ht : IsTup s.heap t items) (hs : s.heap.IsSliceOf sl vl vu .none) (pl : IsPart vl lo) (pu : IsPart vu hi)
    (hw : HT.sIx items.size 0 lo = 0 ∧ HT.sIx items.size items.size hi = items.size) (h : Q (.ref t) s) : wpAny (model prog w) A (getItem (.ref t) (.ref sl)) Q E s := by
  obtain ⟨os, hos, hcs, hds⟩ := id hs
  have hTs : s.TypeIs (.ref sl) "slice" := ⟨os, hos, hcs⟩
  unfold getItem
  try with_reducible refine wpAny_holding ?_
  first | refine wpAny_bind (wpAny_pure ?_) | skip
  refine wpAny_bind (wpAny_sequenceKey ht.typeIs (by decide) ?_)
  refine wpAny_bind (wpAny_callSpecial?_slot (name := Str.ofString "__getitem__") ht.typeIs PyProof.Rows.slot_tuple_getitem (wpAny_call_entry PyProof.Rows.slot_tuple_getitem ht.typeIs entry_tuple_getitem ?_ (args_tuple_getitem _ _)))
  show wpAny _ _ (Builtin.Tuple.tupleItemsOf (.ref t) >>= _) _ _ s
  refine wpAny_bind (tupleItemsOf_ ht ?_)
  refine wpAny_bind (wpAny_typeOf hTs ?_)
  rw [if_pos (by decide)]
  refine wpAny_bind (HT.sliceApplied_gen hs pl pu ?_)
  have yes : (((HT.sIx items.size 0 lo : Nat) : Int) == 0 && (1 : Int) == 1 && (HT.sIx items.size items.size hi - HT.sIx items.size 0 lo) == items.size) = true := by
    rw [hw.1, hw.2]
    simp
  show wpAny _ _ (if (((HT.sIx items.size 0 lo : Nat) : Int) == 0 && (1 : Int) == 1 && (HT.sIx items.size items.size hi - HT.sIx items.size 0 lo) == items.size) = true then _ else _) _ _ s
  rw [if_pos yes]
  show wpAny _ _ (Builtin.Tuple.tupleIsExact (.ref t) >>= _) _ _ s
  unfold Builtin.Tuple.tupleIsExact
  refine wpAny_bind (wpAny_bind (wpAny_typeOf ht.typeIs (wpAny_pure ?_)))
  rw [if_pos (by decide)]
  first
    | exact wpAny_bind (wpAny_rule (wpAny_pure ⟨_, rfl, wpAny_pure h⟩))
    | exact wpAny_bind (wpAny_rule (wpAny_bind (wpAny_pure (wpAny_pure ⟨_, rfl, wpAny_pure h⟩))))
    | exact wpAny_bind (wpAny_rule (wpAny_bind (wpAny_pure ⟨_, rfl, wpAny_pure h⟩)))
def rSlTA : V → Option Int → Option Int → Hp → VK → Prop := fun x lo hi H Q => ∃ a xs, x = .ref a ∧ H a = some (.tup xs) ∧ ∀ p H', Same H H' → H' p = some (.tup (cutV xs lo hi)) → Q (.ref p) H'
theorem sl_tupA : SlR X rSlTA := by
  intro pins s σ H x v vl vu lo hi sl Q I rx hs pl pu h
  obtain ⟨a, xs, e, hx, q⟩ := h
  by_cases hw : HT.sIx xs.length 0 lo = 0 ∧ HT.sIx xs.length xs.length hi = xs.length
  · subst e
    cases rx
    obtain ⟨its, r, ht, hz⟩ := I.tuple (.of hx)
    have hlen : its.toArray.size = xs.length := by rw [List.size_toArray]; exact r.length.symm
    refine ⟨"tuple", _, PyProof.Rows.slot_tuple_getitem.lookup, ht.typeIs, getItem_tuple_whole ht hs pl pu (by rw [hlen]; exact hw) ⟨.ref a, H, I, rfl, q a H (Same.refl H) ?_⟩⟩
    have ec : cutV xs lo hi = xs := by unfold cutV; rw [hw.1, hw.2]; simp
    rw [ec]
    exact hx
  · exact sl_tup pins s σ H x v vl vu lo hi sl Q I rx hs pl pu ⟨a, xs, e, .of hx, hw, fun p hp => q p _ (same_new hp _) upd_same⟩
end
end L2
set_option Elab.async false
set_option linter.all false
set_option maxRecDepth 100000
set_option maxHeartbeats 4000000
namespace L2
open PySem PySem.Spec PyProof.Rows
section
variable {X : Cx}
/-! ### isinstance(x, T), T a built-in type -/
theorem call_isinst : CallR X (.builtin "isinstance") (fun xs H Q => ∃ x T t b, xs = [x, .ty T] ∧ TyOf X.K H x t ∧ PySem.W.kitOne X.K t (.type T) = some b ∧ Q (.bl b) H) := by
  intro pins s σ H xs us Q I r h
  obtain ⟨x, T, t, b, rfl, ty, e, q⟩ := h
  obtain ⟨u, w, rfl, ru, rw'⟩ := vals2 r
  cases rw'
  exact isinst_ok I ru ty e fun tk => ⟨.bl b, H, I.tok tk, rfl, q⟩
end
end L2
set_option Elab.async false
set_option linter.all false
namespace L2
open PySem PySem.Spec PyProof.Rows
/-! ### items of displays and calls, by their make: nothing is reckoned -/
section
variable {X : Cx} {es : List Expr} {te : TE} {t : TA} {env : Env}
theorem starT {a : List Expr} {k : Nat} {p : Pos} : starEach (.Tuple a k p :: es) env = (false, eval (.Tuple a k p) env) :: starEach es env := by first | rfl | (rw [starEach]; intro _ _ z; cases z)
theorem paT {a : List Expr} {k : Nat} {p : Pos} (ha : PE X (.Tuple a k p) te) (hr : PA X es t) : PA X (.Tuple a k p :: es) (tCons te t) := pa_cons ha hr starT
theorem starL {a : List Expr} {p : Pos} : starEach (.List a p :: es) env = (false, eval (.List a p) env) :: starEach es env := by first | rfl | (rw [starEach]; intro _ _ z; cases z)
theorem paL {a : List Expr} {p : Pos} (ha : PE X (.List a p) te) (hr : PA X es t) : PA X (.List a p :: es) (tCons te t) := pa_cons ha hr starL
theorem starC {c : Const} {k : Nat} {p : Pos} : starEach (.Constant c k p :: es) env = (false, eval (.Constant c k p) env) :: starEach es env := by first | rfl | (rw [starEach]; intro _ _ z; cases z)
theorem paC {c : Const} {k : Nat} {p : Pos} (ha : PE X (.Constant c k p) te) (hr : PA X es t) : PA X (.Constant c k p :: es) (tCons te t) := pa_cons ha hr starC
theorem starN {x : Str} {p : Pos} : starEach (.Name x p :: es) env = (false, eval (.Name x p) env) :: starEach es env := by first | rfl | (rw [starEach]; intro _ _ z; cases z)
theorem paN {x : Str} {p : Pos} (ha : PE X (.Name x p) te) (hr : PA X es t) : PA X (.Name x p :: es) (tCons te t) := pa_cons ha hr starN
theorem starB {l r : Expr} {o : Operator} {p : Pos} : starEach (.BinOp l o r p :: es) env = (false, eval (.BinOp l o r p) env) :: starEach es env := by first | rfl | (rw [starEach]; intro _ _ z; cases z)
theorem paB {l r : Expr} {o : Operator} {p : Pos} (ha : PE X (.BinOp l o r p) te) (hr : PA X es t) : PA X (.BinOp l o r p :: es) (tCons te t) := pa_cons ha hr starB
theorem starS {v i : Expr} {p : Pos} : starEach (.Subscript v i p :: es) env = (false, eval (.Subscript v i p) env) :: starEach es env := by first | rfl | (rw [starEach]; intro _ _ z; cases z)
theorem paS {v i : Expr} {p : Pos} (ha : PE X (.Subscript v i p) te) (hr : PA X es t) : PA X (.Subscript v i p :: es) (tCons te t) := pa_cons ha hr starS
theorem starK {f : Expr} {a : List Expr} {k : List Keyword} {p : Pos} : starEach (.Call f a k p :: es) env = (false, eval (.Call f a k p) env) :: starEach es env := by first | rfl | (rw [starEach]; intro _ _ z; cases z)
theorem paK {f : Expr} {a : List Expr} {k : List Keyword} {p : Pos} (ha : PE X (.Call f a k p) te) (hr : PA X es t) : PA X (.Call f a k p :: es) (tCons te t) := pa_cons ha hr starK
theorem starM {l : Expr} {o : List CmpOp} {c : List Expr} {p : Pos} : starEach (.Compare l o c p :: es) env = (false, eval (.Compare l o c p) env) :: starEach es env := by first | rfl | (rw [starEach]; intro _ _ z; cases z)
theorem paM {l : Expr} {o : List CmpOp} {c : List Expr} {p : Pos} (ha : PE X (.Compare l o c p) te) (hr : PA X es t) : PA X (.Compare l o c p :: es) (tCons te t) := pa_cons ha hr starM
theorem starI {c a b : Expr} {p : Pos} : starEach (.IfExp c a b p :: es) env = (false, eval (.IfExp c a b p) env) :: starEach es env := by first | rfl | (rw [starEach]; intro _ _ z; cases z)
theorem paI {c a b : Expr} {p : Pos} (ha : PE X (.IfExp c a b p) te) (hr : PA X es t) : PA X (.IfExp c a b p :: es) (tCons te t) := pa_cons ha hr starI
theorem starO {o : BoolOp} {v : List Expr} {p : Pos} : starEach (.BoolOp o v p :: es) env = (false, eval (.BoolOp o v p) env) :: starEach es env := by first | rfl | (rw [starEach]; intro _ _ z; cases z)
theorem paO {o : BoolOp} {v : List Expr} {p : Pos} (ha : PE X (.BoolOp o v p) te) (hr : PA X es t) : PA X (.BoolOp o v p :: es) (tCons te t) := pa_cons ha hr starO
theorem starU {o : UnaryOp} {v : Expr} {p : Pos} : starEach (.UnaryOp o v p :: es) env = (false, eval (.UnaryOp o v p) env) :: starEach es env := by first | rfl | (rw [starEach]; intro _ _ z; cases z)
theorem paU {o : UnaryOp} {v : Expr} {p : Pos} (ha : PE X (.UnaryOp o v p) te) (hr : PA X es t) : PA X (.UnaryOp o v p :: es) (tCons te t) := pa_cons ha hr starU
theorem starE {e : Expr} {g : List Comprehension} {s : Scope} {p : Pos} : starEach (.ListComp e g s p :: es) env = (false, eval (.ListComp e g s p) env) :: starEach es env := by first | rfl | (rw [starEach]; intro _ _ z; cases z)
theorem paE {e : Expr} {g : List Comprehension} {s : Scope} {p : Pos} (ha : PE X (.ListComp e g s p) te) (hr : PA X es t) : PA X (.ListComp e g s p :: es) (tCons te t) := pa_cons ha hr starE
theorem starJ {v : List Expr} {p : Pos} : starEach (.JoinedStr v p :: es) env = (false, eval (.JoinedStr v p) env) :: starEach es env := by first | rfl | (rw [starEach]; intro _ _ z; cases z)
theorem paJ {v : List Expr} {p : Pos} (ha : PE X (.JoinedStr v p) te) (hr : PA X es t) : PA X (.JoinedStr v p :: es) (tCons te t) := pa_cons ha hr starJ
theorem starA {v : Expr} {n : Str} {p : Pos} : starEach (.Attribute v n p :: es) env = (false, eval (.Attribute v n p) env) :: starEach es env := by first | rfl | (rw [starEach]; intro _ _ z; cases z)
theorem paA {v : Expr} {n : Str} {p : Pos} (ha : PE X (.Attribute v n p) te) (hr : PA X es t) : PA X (.Attribute v n p :: es) (tCons te t) := pa_cons ha hr starA
theorem starD {a : List (Option Expr)} {v : List Expr} {p : Pos} : starEach (.Dict a v p :: es) env = (false, eval (.Dict a v p) env) :: starEach es env := by first | rfl | (rw [starEach]; intro _ _ z; cases z)
theorem paD {a : List (Option Expr)} {v : List Expr} {p : Pos} (ha : PE X (.Dict a v p) te) (hr : PA X es t) : PA X (.Dict a v p :: es) (tCons te t) := pa_cons ha hr starD
end
end L2
set_option Elab.async false
set_option linter.all false
set_option maxRecDepth 100000
set_option maxHeartbeats 4000000
namespace L2
open PySem PySem.Spec PyProof.Rows
/-! ### small things that every reading wants -/
abbrev Big : Int := 1000000000000000000
def InB (n : Int) : Prop := 0 ≤ n ∧ n < Big
theorem iteY {c : Bool} {A B : Prop} (h : c = true) (q : A) : if c = true then A else B := by rw [if_pos h]; exact q
theorem iteN {c : Bool} {A B : Prop} (h : c = false) (q : B) : if c = true then A else B := by rw [if_neg (by rw [h]; decide)]; exact q
theorem iteYd {p : Prop} [Decidable p] {A B : Prop} (h : p) (q : A) : if decide p = true then A else B := by rw [if_pos (decide_eq_true h)]; exact q
theorem iteNd {p : Prop} [Decidable p] {A B : Prop} (h : ¬ p) (q : B) : if decide p = true then A else B := by rw [if_neg (by rw [decide_eq_false h]; decide)]; exact q
theorem iteDd {p : Prop} [Decidable p] {A B : Prop} (h1 : p → A) (h2 : ¬ p → B) : if decide p = true then A else B := by
  by_cases h : p
  · exact iteYd h (h1 h)
  · exact iteNd h (h2 h)
section
variable {K : PySem.W.Frag}
theorem k_ss : PySem.W.kitOne K (.type "str") (.type "str") = some true := by with_unfolding_all rfl
theorem k_ts : PySem.W.kitOne K (.type "tuple") (.type "str") = some false := by with_unfolding_all rfl
theorem k_is' : PySem.W.kitOne K (.type "int") (.type "str") = some false := by with_unfolding_all rfl
theorem k_tt : PySem.W.kitOne K (.type "tuple") (.type "tuple") = some true := by with_unfolding_all rfl
theorem k_it : PySem.W.kitOne K (.type "int") (.type "tuple") = some false := by with_unfolding_all rfl
theorem k_ii : PySem.W.kitOne K (.type "int") (.type "int") = some true := by with_unfolding_all rfl
theorem k_ib : PySem.W.kitOne K (.type "int") (.type "bool") = some false := by with_unfolding_all rfl
theorem isd_int {H : Hp} (n : Int) : Isd K H (.fl (.int n)) (.int n) := by unfold Isd; exact ⟨rfl, rfl⟩
theorem isd_str {H : Hp} (n : Str) : Isd K H (.fl (.str n)) (.str n) := by unfold Isd; exact ⟨rfl, rfl⟩
theorem isds_nil {H : Hp} : Isds K H [] [] := by unfold Isds; rfl
theorem isds_cons {H : Hp} {d : Da} {ds : List Da} {v : V} {vs : List V} (h : Isd K H d v) (t : Isds K H ds vs) : Isds K H (d :: ds) (v :: vs) := by unfold Isds; exact ⟨_, _, rfl, h, t⟩
theorem isds_ints {H : Hp} : ∀ ns : List Int, Isds K H (ns.map fun n => Da.fl (.int n)) (ns.map V.int)
  | [] => isds_nil
  | n :: ns => isds_cons (isd_int n) (isds_ints ns)
theorem isds_strs {H : Hp} : ∀ ns : List Str, Isds K H (ns.map fun n => Da.fl (.str n)) (ns.map V.str)
  | [] => isds_nil
  | n :: ns => isds_cons (isd_str n) (isds_strs ns)
end
theorem dep_ints : ∀ ns : List Int, depDs (ns.map fun n => Da.fl (.int n)) = 0
  | [] => by unfold depDs; rfl
  | n :: ns => by
    rw [List.map_cons]
    unfold depDs
    rw [dep_ints ns]
    unfold depD
    rfl
theorem dep_strs : ∀ ns : List Str, depDs (ns.map fun n => Da.fl (.str n)) = 0
  | [] => by unfold depDs; rfl
  | n :: ns => by
    rw [List.map_cons]
    unfold depDs
    rw [dep_strs ns]
    unfold depD
    rfl
theorem at_ints {ns : List Int} {n : Int} (h0 : 0 ≤ n) (h : n < (ns.length : Int)) : atI (ns.map V.int) n = some (.int (ns.getD n.toNat 0)) := by
  obtain ⟨k, rfl⟩ := Int.eq_ofNat_of_zero_le h0
  have hk : k < ns.length := by omega
  refine atI_nat ?_
  rw [List.getElem?_map, List.getElem?_eq_getElem hk]
  simp [List.getD, hk]
theorem fits2 {n : Nat} (h : n ≤ 100000) : n ≤ sizeLine := Nat.le_trans h (by decide)
theorem fitsL {n : Nat} (h : n ≤ 100000) : n < sizeLine := Nat.lt_of_le_of_lt h (by decide)
theorem same_upd {H H' : Hp} {D : Addr} {o : HO} (hn : H D = none) (s : Same H H') : Same H (upd H' D o) := fun b u q => by rw [upd_ne (ne_of_none q hn)]; exact s b u q
theorem small_log {n : Int} (h0 : 0 ≤ n) (h1 : n < Big) : n.natAbs.log2 < 1920 := by
  have h : n.natAbs < 2 ^ 60 := by
    have : n < 1152921504606846976 := by have : Big = 1000000000000000000 := rfl; omega
    have e : (2 : Nat) ^ 60 = 1152921504606846976 := by decide
    omega
  by_cases z : n.natAbs = 0
  · rw [z]
    decide
  · exact Nat.lt_of_lt_of_le ((Nat.log2_lt z).mpr h) (by decide)
theorem inMod (c : Int) : InB (c % 10 ^ Int.toNat 18) := ⟨Int.emod_nonneg _ (by decide), Int.emod_lt_of_pos _ (by decide)⟩
theorem inMod' (c : Int) : InB (c % 1000000000000000000) := ⟨Int.emod_nonneg _ (by decide), Int.emod_lt_of_pos _ (by decide)⟩
end L2
set_option Elab.async false
set_option linter.all false
set_option maxRecDepth 100000
set_option maxHeartbeats 4000000
namespace L2
open PySem PySem.Spec PyProof.Rows
section
variable {X : Cx}
/-! ### sum, max of a list of ints -/
theorem ints_items {its : List Value} {ns : List Int} (hi : IntsAre its ns) : ∃ xs : Array (Int × Tok), its.toArray = intItems xs ∧ ns = xs.toList.map (·.1) := by
  obtain ⟨xs, e⟩ := hi.allInts.items
  exact ⟨xs, e, by rw [← hi.numsOf, ← nums_intItems, ← e]⟩
theorem call_sum (hc : X.calm = true) : CallR X (.builtin "sum") (fun xs H Q => ∃ (p : Addr) (ns : List Int), xs = [.ref p] ∧ SqL X.K H p (ns.map V.int) ∧ Q (.int ns.sum) H) := by
  intro pins s σ H xs us Q I r h
  obtain ⟨p, ns, rfl, hq, q⟩ := h
  obtain ⟨u, rfl, ru⟩ := vals1 r
  cases ru
  obtain ⟨its, rv, pl, _⟩ := I.list hq
  obtain ⟨xs, e, hns⟩ := ints_items (intsAre_of rv)
  have hl := pl.isList
  rw [e] at hl
  refine sum_intListG (I.ok.hd hc) hl fun h' tk t' hk => ⟨.int _, H, I.kept hk, ⟨t', rfl⟩, ?_⟩
  rw [preSum_eq, List.take_of_length_le (by simp), ← hns]
  exact q
theorem call_maxL (hc : X.calm = true) : CallR X (.builtin "max") (fun xs H Q => ∃ (p : Addr) (ns : List Int), xs = [.ref p] ∧ SqL X.K H p (ns.map V.int) ∧ ns ≠ [] ∧ ∀ M, M ∈ ns → (∀ a ∈ ns, a ≤ M) → Q (.int M) H) := by
  intro pins s σ H xs us Q I r h
  obtain ⟨p, ns, rfl, hq, hne, q⟩ := h
  obtain ⟨u, rfl, ru⟩ := vals1 r
  cases ru
  obtain ⟨its, rv, pl, _⟩ := I.list hq
  obtain ⟨xs, e, hns⟩ := ints_items (intsAre_of rv)
  have hl := pl.isList
  rw [e] at hl
  have hsz : 0 < xs.size := by
    have z : 0 < ns.length := List.length_pos_iff.mpr hne
    rw [hns, List.length_map, Array.length_toList] at z
    exact z
  refine max_intList (I.ok.hd hc) hl hsz fun v h' tk hv hk => ?_
  obtain ⟨t, rfl⟩ := intItems_at hv
  obtain ⟨h1, h2⟩ := argBest_gt (numAt xs) (xs.size - 1)
  refine ⟨.int _, H, I.kept hk, ⟨t, rfl⟩, q _ ?_ fun a ha => ?_⟩
  · rw [hns, numAt_eq]
    exact getD_mem (by rw [List.length_map, Array.length_toList]; omega)
  · rw [hns] at ha
    obtain ⟨j, hj, rfl⟩ := mem_getD ha
    rw [List.length_map, Array.length_toList] at hj
    rw [← numAt_eq]
    exact h2 j (by omega)
end
/-! ### max(xs, default=d) -/
/-- b is the greatest of the first j + 1 -/
def BestTo (xs : Array (Int × Tok)) (j : Nat) (b : Int) : Prop := (∃ i, i ≤ j ∧ numAt xs i = b) ∧ ∀ i, i ≤ j → numAt xs i ≤ b
section
variable {prog : Program} {w : World} {A : Around} {R : Result → Shared → Prop} {I S l : Addr} {d : Value} {xs : Array (Int × Tok)}
def bestObj (vs : Array Value) (c : Nat) : Obj := { cls := .type "list", dict := none, data := .seq vs c, slots := #[] }
theorem mxd_name : (toString "max" ++ toString ".loop" : String) = "max.loop" := by decide
theorem mxd_loop (hh : A.handled = none) (hlI : l ≠ I) (hSI : S ≠ I) (hSl : S ≠ l) :
    ∀ (k j : Nat) (s : Shared) (b : Int) (tb : Tok) (c : Nat), xs.size = j + 1 + k → s.heap.IsListIter I l (j + 1) ∧ s.heap.IsList l (intItems xs) → BestTo xs j b →
      s.heap.get? S = some (bestObj #[.int b tb, .int b tb] c) →
      (∀ M t h' tk, BestTo xs (xs.size - 1) M → (∀ a o, a ≠ I → a ≠ S → s.heap.get? a = some o → h'.get? a = some o) → R (.ok (.ret (.int M t))) { s with heap := h', toks := tk }) →
      codeAny (model prog w) A (.builtin "max.loop" ⟨[.ref I, .none, .ref S], [(Str.ofString "default", d)]⟩) R s := by
  have W := Walks.list (prog := prog) (w := w) (A := A.in1) hh I l hlI (intItems xs)
  have hz : (intItems xs).size = xs.size := by simp [intItems]
  intro k
  induction k with
  | zero =>
    intro j s b tb c hk st hb hS hR
    refine codeAny_builtin F.entry_max_loop ?_
    rw [Around.under_plainId F.plain_max_loop _]
    show wpAny _ A.in1 (seqItems? (.ref S) >>= _) _ _ s
    refine wpAny_bind (wpAny_seqItems hS rfl ?_)
    show wpAny _ A.in1 (tryCatch (pyNext (.ref I)) _ >>= _) _ _ s
    have e0 : j + 1 = (intItems xs).size := by omega
    refine wpAny_bind (wpAny_tryCatch (W.done s _ _ (e0 ▸ st) fun h' tk hk' => ?_))
    have hS' := hk' S _ (by simpa using hSI) hS
    show wpAny _ A.in1 (updateSeq S (fun _ => #[]) >>= _) _ _ _
    refine wpAny_bind ?_
    refine wpAny_updateSeq hS' rfl (wpAny_bind (wpAny_letGo (wpAny_pure ?_)))
    refine hR b tb _ tk (by have : xs.size - 1 = j := by omega
                            rw [this]; exact hb) fun a o ha haS e => (Heap.get?_update_other _ _ (Ne.symm haS)).trans (hk' a o (by simpa using ha) e)
  | succ k ih =>
    intro j s b tb c hk st hb hS hR
    refine codeAny_builtin F.entry_max_loop ?_
    rw [Around.under_plainId F.plain_max_loop _]
    show wpAny _ A.in1 (seqItems? (.ref S) >>= _) _ _ s
    refine wpAny_bind (wpAny_seqItems hS rfl ?_)
    show wpAny _ A.in1 (tryCatch (pyNext (.ref I)) _ >>= _) _ _ s
    refine wpAny_bind (wpAny_tryCatch (W.item (j + 1) s _ _ (by omega) st fun v h' tk hP st' hk' => ?_))
    have hS' := hk' S _ (by simpa using hSI) hS
    obtain ⟨tv, rfl⟩ := intItems_at hP
    show wpAny _ A.in1 (tryCatch (holding [_, _] (richCompare .Gt (.int (numAt xs (j + 1)) tv) (.int b tb) >>= _)) _ >>= _) _ _ _
    have cmp := CmpOf.ints_gt (prog := prog) (w := w) (A := A.in1) (P := fun i v => ∃ t, v = .int (if i = 0 then numAt xs (j + 1) else b) t) (fun i => if i = 0 then numAt xs (j + 1) else b) (fun _ _ h => h)
    refine wpAny_bind (wpAny_tryCatch (wpAny_holding (wpAny_bind (cmp 0 1 _ _ _ _ _ ⟨tv, by simp⟩ ⟨tb, by simp⟩ ?_))))
    refine wpAny_bind (wpAny_holding (wpAny_truthy_bool ?_))
    refine wpAny_bind (wpAny_letGo (wpAny_pure ?_))
    have st2 : ∀ h2 : Heap, (∀ a o, a ≠ S → h'.get? a = some o → h2.get? a = some o) → h2.IsListIter I l (j + 1 + 1) ∧ h2.IsList l (intItems xs) := fun h2 e => W.frame _ _ _ st' fun a ha o q => e a o (by
      rintro rfl
      simp at ha
      rcases ha with ha | ha
      · exact hSI ha
      · exact hSl ha) q
    by_cases hlt : numAt xs (j + 1) > b
    · have hd : decide ((if (0 : Nat) = 0 then numAt xs (j + 1) else b) > (if (1 : Nat) = 0 then numAt xs (j + 1) else b)) = true := by simpa using hlt
      show wpAny _ A.in1 (if decide ((if (0 : Nat) = 0 then numAt xs (j + 1) else b) > (if (1 : Nat) = 0 then numAt xs (j + 1) else b)) = true then _ else _) _ _ _
      rw [hd]
      simp only [if_true]
      refine wpAny_bind ?_
      refine wpAny_updateSeq hS' rfl (wpAny_bind (wpAny_letGo ?_))
      rw [mxd_name]
      refine wpAny_pure ⟨plainId_quiet F.plain_max_loop _, ih (j + 1) _ (numAt xs (j + 1)) tv _ (by omega) (st2 _ fun a o ha q => (Heap.get?_update_other _ _ (Ne.symm ha)).trans q) ⟨⟨j + 1, Nat.le_refl _, rfl⟩, fun i hi => ?_⟩ (Heap.get?_update_self _ hS' rfl) fun M t h2 tk2 hM hk2 => ?_⟩
      · by_cases e : i = j + 1
        · subst e; exact Int.le_refl _
        · have := hb.2 i (by omega); omega
      · exact hR M t h2 tk2 hM fun a o ha haS q => hk2 a o ha haS ((Heap.get?_update_other _ _ (Ne.symm haS)).trans (hk' a o (by simpa using ha) q))
    · have hd : decide ((if (0 : Nat) = 0 then numAt xs (j + 1) else b) > (if (1 : Nat) = 0 then numAt xs (j + 1) else b)) = false := by simpa using hlt
      show wpAny _ A.in1 (if decide ((if (0 : Nat) = 0 then numAt xs (j + 1) else b) > (if (1 : Nat) = 0 then numAt xs (j + 1) else b)) = true then _ else _) _ _ _
      rw [hd]
      simp only [Bool.false_eq_true, if_false]
      refine wpAny_bind (wpAny_letGo ?_)
      rw [mxd_name]
      refine wpAny_pure ⟨plainId_quiet F.plain_max_loop _, ih (j + 1) _ b tb c (by omega) st' ⟨?_, fun i hi => ?_⟩ hS' fun M t h2 tk2 hM hk2 => ?_⟩
      · obtain ⟨i, hi, e⟩ := hb.1
        exact ⟨i, by omega, e⟩
      · by_cases e : i = j + 1
        · subst e; omega
        · exact hb.2 i (by omega)
      · exact hR M t h2 tk2 hM fun a o ha haS q => hk2 a o ha haS (hk' a o (by simpa using ha) q)
theorem args_maxD (a v : Value) : argsOk "max" ⟨[a], [(Str.ofString "default", v)]⟩ := by unfold argsOk; kernel_rfl
theorem max_dflt {E : Value → Shared → Prop} {s : Shared} {Q : Value → Shared → Prop} (hh : A.handled = none) (hl : s.heap.IsList l (intItems xs))
    (h0 : xs.size = 0 → ∀ h' tk, (∀ a o, s.heap.get? a = some o → h'.get? a = some o) → Q d { s with heap := h', toks := tk })
    (h1 : ∀ M t h' tk, xs.size ≠ 0 → BestTo xs (xs.size - 1) M → (∀ a o, s.heap.get? a = some o → h'.get? a = some o) → Q (.int M t) { s with heap := h', toks := tk }) :
    wpAny (model prog w) A (call (.builtin "max") [.ref l] [(Str.ofString "default", d)]) Q E s := by
  have hz : (intItems xs).size = xs.size := by simp [intItems]
  refine kmk_tree F.kind_max F.plain_max F.entry_max (args_maxD _ _) ?_
  show wpAny _ A.in1 (Builtin.Builtins.bindParams "max" ["key", "default"] 0 ⟨[], [(Str.ofString "default", d)]⟩ >>= _) _ _ s
  refine wpAny_bind (wpAny_of_eq (show Builtin.Builtins.bindParams "max" ["key", "default"] 0 ⟨[], [(Str.ofString "default", d)]⟩ = pure [none, some d] from rfl) ?_)
  refine wpAny_bind (wpAny_pure ?_)
  refine wpAny_bind (iter_intList hl fun s₂ e st hfp hlI => ?_)
  refine wpAny_bind (wpAny_newObj_type ?_)
  rw [mxd_name]
  generalize hSs : s₂.heap.objs.size = S
  have gone : ∀ a o, s.heap.get? a = some o → a ≠ s.heap.objs.size ∧ a ≠ S ∧ s₂.heap.get? a = some o := fun a o q => by
    have l1 := Heap.lt_size q
    refine ⟨Nat.ne_of_lt l1, ?_, ?_⟩
    · rw [← hSs]
      exact Nat.ne_of_lt (Nat.lt_trans l1 (hfp _ (by simp)))
    · rw [e]
      exact Heap.get?_push_of_some _ q
  have hSI : S ≠ s.heap.objs.size := by
    rw [← hSs]
    exact Nat.ne_of_gt (hfp _ (by simp))
  have hSl : S ≠ l := by
    rw [← hSs]
    exact Nat.ne_of_gt (hfp _ (by simp))
  have W := Walks.list (prog := prog) (w := w) (A := A.in1) hh s.heap.objs.size l hlI (intItems xs)
  refine wpAny_pure ⟨plainId_quiet F.plain_max_loop _, ?_⟩
  have gS : (s₂.heap.push { cls := .type "list", dict := none, data := .seq ([] : List Value).toArray }).get? S = some (bestObj #[] 0) := by
    rw [← hSs]
    exact Heap.get?_push_size _ rfl
  have st1 : (s₂.heap.push { cls := .type "list", dict := none, data := .seq ([] : List Value).toArray }).IsListIter s.heap.objs.size l 0 ∧ (s₂.heap.push { cls := .type "list", dict := none, data := .seq ([] : List Value).toArray }).IsList l (intItems xs) :=
    W.frame _ _ _ st fun b _ o q => Heap.get?_push_of_some _ q
  refine codeAny_builtin F.entry_max_loop ?_
  rw [Around.under_plainId F.plain_max_loop _]
  show wpAny _ A.in1 (seqItems? (.ref _) >>= _) _ _ _
  refine wpAny_bind (wpAny_seqItems gS rfl ?_)
  show wpAny _ A.in1 (tryCatch (pyNext (.ref s.heap.objs.size)) _ >>= _) _ _ _
  by_cases hn : xs.size = 0
  · refine wpAny_bind (wpAny_tryCatch (W.done _ _ _ (by rw [hz, hn]; exact st1) fun h' tk hk' => ?_))
    refine wpAny_bind (wpAny_rule (wpAny_pure ?_))
    subst e
    exact h0 hn h' tk fun a o q => hk' a o (by simpa using (gone a o q).1) (Heap.get?_push_of_some _ (gone a o q).2.2)
  · refine wpAny_bind (wpAny_tryCatch (W.item 0 _ _ _ (by rw [hz]; omega) st1 fun v h' tk hP st' hk' => ?_))
    obtain ⟨tv, rfl⟩ := intItems_at hP
    have hS' := hk' S _ (by simpa using hSI) gS
    show wpAny _ A.in1 (updateSeq S (fun _ => #[.int (numAt xs 0) tv, .int (numAt xs 0) tv]) >>= _) _ _ _
    refine wpAny_bind ?_
    refine wpAny_updateSeq hS' rfl ?_
    rw [mxd_name]
    refine wpAny_pure ⟨plainId_quiet F.plain_max_loop _, mxd_loop hh hlI hSI hSl (xs.size - 1) 0 _ (numAt xs 0) tv _ (by omega) (W.frame _ _ _ st' fun a ha o q => ?_) ⟨⟨0, Nat.le_refl _, rfl⟩, fun i hi => ?_⟩ (Heap.get?_update_self _ hS' rfl) fun M t h2 tk2 hM hk2 => ?_⟩
    · refine (Heap.get?_update_other _ _ ?_).trans q
      rintro rfl
      simp at ha
      rcases ha with ha | ha
      · exact hSI ha
      · exact hSl ha
    · obtain rfl : i = 0 := by omega
      exact Int.le_refl _
    · subst e
      exact h1 M t h2 tk2 hn hM fun a o q => hk2 a o (gone a o q).1 (gone a o q).2.1 ((Heap.get?_update_other _ _ (Ne.symm (gone a o q).2.1)).trans (hk' a o (by simpa using (gone a o q).1) (Heap.get?_push_of_some _ (gone a o q).2.2)))
end
section
variable {X : Cx}
/-- max(e, default=n), n a written number -/
def tMaxD (K : PySem.W.Frag) (te : TE) (n : Int) : TE := fun σ H Q => te σ H fun x H1 => ∃ (p : Addr) (ns : List Int), x = .ref p ∧ SqL K H1 p (ns.map V.int) ∧ (ns = [] → Q (.int n) H1) ∧ ∀ M, M ∈ ns → (∀ a ∈ ns, a ≤ M) → Q (.int M) H1
theorem pe_maxD {e : Expr} {te : TE} {n : Int} {j : Nat} {p pos kp cp : Pos} (hc : X.calm = true) (hg : Gl X "max") (hm : X.mg "max" = none) (he : PE X e te) (hst : starEach [e] X.env = [(false, eval e X.env)] := by rfl) :
    PE X (.Call (.Name "max" p) [e] [⟨some "default", .Constant (.int n) j cp, kp⟩] pos) (tMaxD X.K te n) := by
  intro pins s σ H Q I h
  refine wpAny_Call_Name_kw (ld_blt I hg hm PyProof.Rows.boot_max ?_)
  refine callWith_kw ?_ (by rw [hst]; rfl) (by rw [hst]; rfl)
  rw [hst]
  refine Calls.spliced_cons (thn (he pins s σ H _ I h) fun u s1 ⟨x, H1, I1, r1, q1⟩ => Calls.spliced_nil (kws_cons (wpAny_Constant_int (kws_nil ?_))))
  obtain ⟨a, ns, rfl, hq, q0, q1⟩ := q1
  cases r1
  have I2 := I1.tok (s1.toks + 1)
  obtain ⟨its, rv, pl, _⟩ := I2.list hq
  obtain ⟨xs, ex, hns⟩ := ints_items (intsAre_of rv)
  have hl := pl.isList
  rw [ex] at hl
  refine max_dflt (I.ok.hd hc) hl (fun z h' tk hk => ⟨.int n, H1, I2.kept hk, ⟨_, rfl⟩, q0 ?_⟩) fun M t h' tk hn hM hk => ⟨.int M, H1, I2.kept hk, ⟨t, rfl⟩, q1 M ?_ fun a ha => ?_⟩
  · rw [hns]
    have : xs = #[] := Array.size_eq_zero_iff.mp z
    rw [this]
    rfl
  · obtain ⟨i, hi, ei⟩ := hM.1
    rw [← ei, hns, numAt_eq]
    exact getD_mem (by rw [List.length_map, Array.length_toList]; omega)
  · rw [hns] at ha
    obtain ⟨j, hj, rfl⟩ := mem_getD ha
    rw [List.length_map, Array.length_toList] at hj
    rw [← numAt_eq]
    exact hM.2 j (by omega)
/-! ### text * n -/
theorem op_rep_str : OpR X (binaryOp .Mult) (fun x y H Q => ∃ z n, x = .str z ∧ y = .int n ∧ z.length ≤ 1000 ∧ n ≤ 1000 ∧ -1000 ≤ n ∧ Q (.str (Txt.mul z n)) H) := by
  intro pins s σ H x y v u Q I rx ry h
  obtain ⟨z, n, rfl, rfl, h1, h2, h3, q⟩ := h
  obtain ⟨t, rfl⟩ := rx
  obtain ⟨t', rfl⟩ := ry
  refine SB.mul ⟨?_, fun hn _ => ?_, fun hn _ => ?_⟩ fun t' k => ⟨.str _, H, I.tok k, ⟨t', rfl⟩, q⟩
  · rw [decide_eq_false (by omega), decide_eq_false (by omega)]
    rfl
  · have e : (1000 : Int) ≤ (2 ^ 63 - 1) / n := Int.le_ediv_of_mul_le (by omega) (by omega)
    omega
  · have hle : z.length * n.toNat ≤ 1000 * 1000 := Nat.mul_le_mul h1 (by omega)
    unfold PySem.Builtin.Str.tooLong
    simp only [decide_eq_false_iff_not]
    rw [sizeLine_eq]
    omega
/-! ### xs == [] -/
theorem op_eqNil (hu : X.A.units + 64 < cLine) : OpR X (compareOp .Eq) (fun x y H Q => ∃ a b xs, x = .ref a ∧ y = .ref b ∧ SqL X.K H a xs ∧ SqL X.K H b [] ∧ Q (.bl (decide (xs = []))) H) := by
  intro pins s σ H x y v u Q I rx ry h
  obtain ⟨a, b, xs, e1, e2, ha, hb, q⟩ := h
  by_cases hx : xs = []
  · subst hx
    refine op_eqD hu pins s σ H x y v u Q I rx ry ⟨a, b, [], [], [], [], e1, e2, .inr ⟨ha, hb⟩, isds_nil, isds_nil, by unfold depDs; omega, ?_⟩
    have e : id (eqDs [] []) = decide (([] : List V) = []) := by unfold eqDs; rfl
    rw [e]
    exact q
  · subst e1 e2
    cases rx
    cases ry
    obtain ⟨us, r1, p1, _⟩ := I.list ha
    obtain ⟨ws, r2, p2, _⟩ := I.list hb
    cases r2
    have hne : us ≠ [] := fun z => hx ((Vals.nil_iff r1).mp z)
    refine SeqAt.eq_list_lengthsAt p1.isList p2.isList (by simpa using hne) (by omega) ⟨.bl _, H, I, ?_, q⟩
    rw [decide_eq_false hx]
    rfl
/-! ### d in ds, through all that is in them -/
noncomputable def eqAny (K : PySem.W.Frag) (H : Hp) (d : Da) (u : Value) : Bool := @decide (∃ e v, RelV v u ∧ Isd K H e v ∧ eqD e d = true) (Classical.propDecidable _)
theorem any_items {pins : List (Addr × Obj)} {s : Shared} {σ : St} {H : Hp} (I : Inv X pins σ H s) (d : Da) : ∀ {ds : List Da} {xs : List V} {us : List Value}, Isds X.K H ds xs → Vals xs us →
    (∀ u ∈ us, ∃ e v, RelV v u ∧ Isd X.K H e v ∧ e ∈ ds ∧ eqAny X.K H d u = eqD e d) ∧ us.any (eqAny X.K H d) = ds.any (fun e => eqD e d)
  | [], xs, us, h, r => by
    unfold Isds at h
    subst h
    cases r
    exact ⟨(fun u hu => nomatch hu), rfl⟩
  | e :: ds, xs, us, h, r => by
    unfold Isds at h
    obtain ⟨v, vs, rfl, he, hs⟩ := h
    cases r with
    | cons r1 r2 =>
      rename_i u us'
      obtain ⟨ih1, ih2⟩ := any_items I d hs r2
      have ee : eqAny X.K H d u = eqD e d := by
        unfold eqAny
        cases hb : eqD e d with
        | true => exact @decide_eq_true _ (Classical.propDecidable _) ⟨e, v, r1, he, hb⟩
        | false =>
          refine @decide_eq_false _ (Classical.propDecidable _) ?_
          rintro ⟨e', v', r', he', hb'⟩
          have : v' = v := r'.inj r1
          subst this
          have : e' = e := Isd.inj I e' e he' he
          subst this
          rw [hb] at hb'
          cases hb'
      refine ⟨fun u' hu => ?_, by rw [List.any_cons, List.any_cons, ee, ih2]⟩
      rcases List.mem_cons.mp hu with rfl | hu
      · exact ⟨e, v, r1, he, List.mem_cons_self, ee⟩
      · obtain ⟨e', v', a, b, c, q⟩ := ih1 u' hu
        exact ⟨e', v', a, b, List.mem_cons_of_mem _ c, q⟩
theorem dep_mem {ds : List Da} {e : Da} (h : e ∈ ds) : depD e ≤ depDs ds := by
  obtain ⟨i, hi, rfl⟩ := List.mem_iff_getElem.mp h
  exact depD_mem (j := i) (List.getElem?_eq_getElem hi)
def rInD (K : PySem.W.Frag) (f : Bool → Bool) : R2 := fun x y H Q => ∃ p xs d ds, y = .ref p ∧ SqL K H p xs ∧ Isd K H d x ∧ Isds K H ds xs ∧ depDs ds ≤ 50 ∧ Q (.bl (f (ds.any fun e => eqD e d))) H
theorem op_inD (hu : X.A.units + 64 < cLine) : OpR X (compareOp .In) (rInD X.K id) := by
  intro pins s σ H x y v u Q I rx ry h
  obtain ⟨p, xs, d, ds, rfl, hq, hd, hs, hz, q⟩ := h
  cases ry
  obtain ⟨us, r1, p1, _⟩ := I.list hq
  obtain ⟨a1, a2⟩ := any_items I d hs r1
  refine SeqAt.in_listAt (eqAny X.K H d) p1.isList (fun w hw => ?_) ⟨.bl _, H, I, ?_, q⟩
  · obtain ⟨e, z, r, he, hm, ee⟩ := a1 w (by simpa using hw)
    rw [ee]
    exact eqAt_D I 50 e d (Nat.le_trans (dep_mem hm) hz) he hd r rx (by show X.A.units + 1 + 50 < cLine; omega)
  · show Value.bool _ = _
    rw [← a2]
    simp
theorem op_notInD (hu : X.A.units + 64 < cLine) : OpR X (compareOp .NotIn) (rInD X.K not) := by
  intro pins s σ H x y v u Q I rx ry h
  obtain ⟨p, xs, d, ds, rfl, hq, hd, hs, hz, q⟩ := h
  cases ry
  obtain ⟨us, r1, p1, _⟩ := I.list hq
  obtain ⟨a1, a2⟩ := any_items I d hs r1
  refine SeqAt.notIn_listAt (eqAny X.K H d) p1.isList (fun w hw => ?_) ⟨.bl _, H, I, ?_, q⟩
  · obtain ⟨e, z, r, he, hm, ee⟩ := a1 w (by simpa using hw)
    rw [ee]
    exact eqAt_D I 50 e d (Nat.le_trans (dep_mem hm) hz) he hd r rx (by show X.A.units + 1 + 50 < cLine; omega)
  · show Value.bool _ = _
    rw [← a2]
    simp
end
end L2
set_option Elab.async false
set_option linter.all false
set_option maxRecDepth 100000
set_option maxHeartbeats 4000000
namespace L2
open PySem PySem.Spec PyProof.Rows
/-! ### rules for a block whose context is a letter: K told from outside -/
section
variable {X : Cx} {K : PySem.W.Frag}
theorem ix_tupC (h : X.K = K) : IxR X (rIxT K) := h ▸ ix_tup
theorem ix_listC (h : X.K = K) : IxR X (rIxL K) := h ▸ ix_list
theorem op_inDC (h : X.K = K) (hu : X.A.units + 64 < cLine) : OpR X (compareOp .In) (rInD K id) := h ▸ op_inD hu
theorem op_notInDC (h : X.K = K) (hu : X.A.units + 64 < cLine) : OpR X (compareOp .NotIn) (rInD K not) := h ▸ op_notInD hu
end
/-! ### comprehensions whose items' values are told ahead -/
theorem take_snoc {α : Type} {xs : List α} {i : Nat} {x : α} (h : xs[i]? = some x) : xs.take (i + 1) = xs.take i ++ [x] := by
  rw [List.take_add_one, h]
  rfl
theorem lt_of_some {α : Type} {xs : List α} {i : Nat} {x : α} (h : xs[i]? = some x) : i < xs.length := (List.getElem?_eq_some_iff.mp h).1
theorem some_of_lt {α : Type} {xs : List α} {i : Nat} (h : i < xs.length) : ∃ x, xs[i]? = some x := ⟨_, List.getElem?_eq_getElem h⟩
section
variable {K : PySem.W.Frag} {a : Addr} {xs ys : List V} {js : List Nat} {tc : TT} {te : TE} {σ : St} {Q : VK} {D : Addr} {H1 : Hp}
theorem comp_tupM (hz : xs.length < sizeLine) (hlen : ys.length = xs.length) (ha : SqT K H1 a xs) (hD : H1 D = none)
    (he : ∀ (i : Nat) (x y : V) (H : Hp), xs[i]? = some x → ys[i]? = some y → Same H1 H → ∀ Q' : VK, (∀ H', Same H H' → Q' y H') → te (some x :: compS js σ) H Q')
    (hq : ∀ H', Same H1 H' → H' D = some (.lst ys) → Q (.ref D) H') : CompW (Itt K a) js tYes te σ Q D H1 := by
  refine comp_tpl (K := K) (a := a) (xs := xs) (fun i acc H => i ≤ xs.length ∧ acc = ys.take i ∧ Same H1 H ∧ H D = some (.lst acc)) hz ⟨Nat.zero_le _, rfl, same_new hD _, upd_same⟩ (fun i acc H ⟨l, e, s, d⟩ => ⟨d, ?_, Same.tupS s ha⟩) ?_ ?_
  · rw [e, List.length_take]
    omega
  · rintro i m x acc H hi ⟨l, e, s, d⟩ hm
    have hlt := lt_of_some hi
    obtain ⟨y, hy⟩ := some_of_lt (xs := ys) (i := i) (by omega)
    exact he i x y H hi hy s _ fun H' s' => cstep hlt hm (s' _ _ d) ⟨hlt, by rw [e, take_snoc hy], same_upd hD (s.trans s'), upd_same⟩
  · rintro acc H ⟨l, e, s, d⟩
    rw [List.take_of_length_le (by omega)] at e
    exact hq H s (by rw [d, e])
theorem comp_lstM (hz : xs.length < sizeLine) (hlen : ys.length = xs.length) (ha : SqL K H1 a xs) (hD : H1 D = none)
    (he : ∀ (i : Nat) (x y : V) (H : Hp), xs[i]? = some x → ys[i]? = some y → Same H1 H → ∀ Q' : VK, (∀ H', Same H H' → Q' y H') → te (some x :: compS js σ) H Q')
    (hq : ∀ H', Same H1 H' → H' D = some (.lst ys) → Q (.ref D) H') : CompW (Itl K a) js tYes te σ Q D H1 := by
  refine comp_lst (K := K) (a := a) (xs := xs) (fun i acc H => i ≤ xs.length ∧ acc = ys.take i ∧ Same H1 H ∧ H D = some (.lst acc)) hz ⟨Nat.zero_le _, rfl, same_new hD _, upd_same⟩ (fun i acc H ⟨l, e, s, d⟩ => ⟨d, ?_, Same.seq s ha⟩) ?_ ?_
  · rw [e, List.length_take]
    omega
  · rintro i m x acc H hi ⟨l, e, s, d⟩ hm
    have hlt := lt_of_some hi
    obtain ⟨y, hy⟩ := some_of_lt (xs := ys) (i := i) (by omega)
    exact he i x y H hi hy s _ fun H' s' => cstep hlt hm (s' _ _ d) ⟨hlt, by rw [e, take_snoc hy], same_upd hD (s.trans s'), upd_same⟩
  · rintro acc H ⟨l, e, s, d⟩
    rw [List.take_of_length_le (by omega)] at e
    exact hq H s (by rw [d, e])
/-- with a test: ks says which items stay -/
def keptBy (xs : List V) (ks : List Bool) : List V := (xs.zip ks).filterMap fun p => if p.2 = true then some p.1 else none
theorem kept_snoc {xs : List V} {ks : List Bool} {i : Nat} {x : V} {k : Bool} (hx : xs[i]? = some x) (hk : ks[i]? = some k) : keptBy (xs.take (i + 1)) (ks.take (i + 1)) = keptBy (xs.take i) (ks.take i) ++ (if k = true then [x] else []) := by
  have l1 := lt_of_some hx
  have l2 := lt_of_some hk
  unfold keptBy
  rw [take_snoc hx, take_snoc hk, List.zip_append (by rw [List.length_take, List.length_take]; omega), List.filterMap_append]
  congr 1
  cases k <;> rfl
theorem kept_len (xs : List V) (ks : List Bool) : (keptBy xs ks).length ≤ xs.length := by
  unfold keptBy
  refine Nat.le_trans (List.length_filterMap_le _ _) ?_
  rw [List.length_zip]
  omega
theorem comp_lstK (ks : List Bool) (hz : xs.length < sizeLine) (hlen : ks.length = xs.length) (ha : SqL K H1 a xs) (hD : H1 D = none)
    (hc : ∀ (i : Nat) (x : V) (k : Bool) (H : Hp), xs[i]? = some x → ks[i]? = some k → Same H1 H → ∀ Q' : Bool → Hp → Prop, (∀ H', Same H H' → Q' k H') → tc (some x :: compS js σ) H Q')
    (he : ∀ (x : V) (H : Hp) (Q' : VK), Q' x H → te (some x :: compS js σ) H Q')
    (hq : ∀ H', Same H1 H' → H' D = some (.lst (keptBy xs ks)) → Q (.ref D) H') : CompW (Itl K a) js tc te σ Q D H1 := by
  refine ⟨fun i m acc H => m = xs.length - i ∧ i ≤ xs.length ∧ acc = keptBy (xs.take i) (ks.take i) ∧ Same H1 H ∧ H D = some (.lst acc), ⟨xs.length, by simp, Nat.zero_le _, rfl, same_new hD _, upd_same⟩, ?_⟩
  rintro i m acc H ⟨hm, hi, e, s, d⟩
  have hla : acc.length ≤ i := by
    rw [e]
    refine Nat.le_trans (kept_len _ _) ?_
    rw [List.length_take]
    omega
  refine ⟨d, by omega, ?_⟩
  by_cases hlt : i < xs.length
  · refine .inr ⟨⟨xs, xs[i], Same.seq s ha, by simp [hlt]⟩, fun x H' y => ?_⟩
    obtain ⟨e1, y⟩ := y
    subst e1
    have hx := y xs (Same.seq s ha)
    obtain ⟨k, hk⟩ := some_of_lt (xs := ks) (i := i) (by omega)
    refine hc i x k _ hx hk s _ fun H' s' => ?_
    have step := kept_snoc hx hk
    cases k with
    | true =>
      rw [if_pos rfl]
      rw [if_pos rfl] at step
      exact he x H' _ ⟨s' _ _ d, xs.length - (i + 1), by omega, rfl, hlt, by rw [step, e], same_upd hD (s.trans s'), upd_same⟩
    | false =>
      rw [if_neg (by decide)]
      rw [if_neg (by decide), List.append_nil] at step
      exact ⟨xs.length - (i + 1), by omega, rfl, hlt, by rw [step, e], s.trans s', s' _ _ d⟩
  · have e0 : i = xs.length := by omega
    subst e0
    refine .inl ⟨⟨xs, Same.seq s ha, Nat.le_refl _⟩, hq H s ?_⟩
    rw [d, e, List.take_of_length_le (Nat.le_refl _), List.take_of_length_le (by omega)]
end
/-! ### slices by numbers -/
theorem cut_take {xs : List V} {k : Nat} (h : k ≤ xs.length) : cutV xs none (some (k : Int)) = xs.take k := by
  unfold cutV
  rw [HT.sIx_none, HT.sIx_nat, Nat.min_eq_left h]
  simp
theorem cut_drop {xs : List V} {k : Nat} (h : k ≤ xs.length) : cutV xs (some (k : Int)) none = xs.drop k := by
  unfold cutV
  rw [HT.sIx_none, HT.sIx_nat, Nat.min_eq_left h]
  rw [List.take_of_length_le (by rw [List.length_drop]; omega)]
theorem cut_take' (xs : List V) (k : Nat) : cutV xs none (some (k : Int)) = xs.take k := by
  by_cases h : k ≤ xs.length
  · exact cut_take h
  · unfold cutV
    rw [HT.sIx_none, HT.sIx_nat, Nat.min_eq_right (by omega), List.drop_zero, Nat.sub_zero, List.take_of_length_le (Nat.le_refl _), List.take_of_length_le (by omega)]
theorem cut_drop' (xs : List V) (k : Nat) : cutV xs (some (k : Int)) none = xs.drop k := by
  by_cases h : k ≤ xs.length
  · exact cut_drop h
  · unfold cutV
    rw [HT.sIx_none, HT.sIx_nat, Nat.min_eq_right (by omega), List.drop_of_length_le (Nat.le_refl _), List.drop_of_length_le (by omega)]
    exact List.take_nil
theorem atI_head {α : Type} (x : α) (r : List α) : atI (x :: r) 0 = some x := atI_nat (j := 0) rfl
theorem atI_in {α : Type} {xs : List α} {i : Int} (h0 : 0 ≤ i) (h1 : i < xs.length) : ∃ x, atI xs i = some x ∧ x ∈ xs := by
  obtain ⟨k, rfl⟩ := Int.eq_ofNat_of_zero_le h0
  have hk : k < xs.length := by omega
  exact ⟨xs[k], atI_nat (List.getElem?_eq_getElem hk), List.getElem_mem hk⟩
/-! ### for, while: the forms that are used -/
theorem while_m {c : TT} {tb : TS} {D : Ends} {σ : St} {H : Hp} (Pv : Nat → St → Hp → Prop) (m₀ : Nat) (h0 : Pv m₀ σ H)
    (hs : ∀ m σ H, Pv m σ H → c σ H fun b H1 => if b = true then tb { D with nx := fun σ' H' => ∃ m', m' < m ∧ Pv m' σ' H', ct := fun σ' H' => ∃ m', m' < m ∧ Pv m' σ' H', bk := D.nx } σ H1 else D.nx σ H1)
    (mono : ∀ σ H Q Q', (∀ b H1, Q b H1 → Q' b H1) → c σ H Q → c σ H Q') : tWhile c tb D σ H := by
  refine ⟨Pv, ⟨m₀, h0⟩, fun m σ H p => mono σ H _ _ (fun b H1 q => ?_) (hs m σ H p)⟩
  cases b with
  | true => exact ⟨_, fun σ' H' h => h, q⟩
  | false => exact q
end L2
set_option Elab.async false
set_option linter.all false
set_option maxRecDepth 100000
namespace L2
open PySem PySem.Spec PyProof.Rows
/-! ### the rules, closed: Lean does not look into what they promise while it reads a term of them -/
structure QE (X : Cx) (e : Expr) (t : TE) : Prop where
  h : PE X e t
structure QA (X : Cx) (es : List Expr) (t : TA) : Prop where
  h : PA X es t
structure QS (X : Cx) (st : Stmt) (t : TS) : Prop where
  h : PS X st t
structure QSs (X : Cx) (b : List Stmt) (t : TS) : Prop where
  h : PSs X b t
structure QT (X : Cx) (e : Expr) (t : TT) : Prop where
  h : PT X e t
structure QW (X : Cx) (e : Expr) (t : TT) : Prop where
  h : PW X e t
structure QI (X : Cx) (tg iter : Expr) (t : TI) : Prop where
  h : PI X tg iter t
structure QG (X : Cx) (tg : Expr) (t : TG) : Prop where
  h : PG X tg t
structure QGs (X : Cx) (ts : List Expr) (t : TGs) : Prop where
  h : PGs X ts t
structure QO (X : Cx) (e : Option Expr) (t : TO) : Prop where
  h : PO X e t
structure QIf (X : Cx) (ifs : List Expr) (t : TT) : Prop where
  h : PIf X ifs t
theorem qss_cons {X : L2.Cx} {st : PySem.Stmt} {rest : List PySem.Stmt} {t : L2.TS} {u : L2.TS} (h1 : QS X st t) (h2 : QSs X rest u) : QSs X (st :: rest) (L2.tSeq t u) := ⟨@L2.pss_cons _ _ _ _ _ h1.h h2.h⟩
theorem qss_one {X : L2.Cx} {st : PySem.Stmt} {t : L2.TS} (h1 : QS X st t) : QSs X [st] t := ⟨@L2.pss_one _ _ _ h1.h⟩
theorem qs_set {X : L2.Cx} {pos : PySem.Pos} {i : Nat} {x : PySem.Str} {e : PySem.Expr} {te : L2.TE} {pos' : PySem.Pos} (hN : List.Nodup (L2.Cx.N X)) (hi : (L2.Cx.N X)[i]? = Option.some x) (hx : L2.Loc (PySem.Env.scope (L2.Cx.env X)) x) (he : QE X e te) (hs : PySem.swapsWith e (Option.some (PySem.Expr.Name x pos')) (PySem.Pos.line pos) (L2.Cx.env X) = Pure.pure Bool.false := by rfl) (hf : L2.Cx.fn X x = Bool.true ∨ List.lookup x (PySem.Scope.names (PySem.Env.scope (L2.Cx.env X))) = Option.some PySem.NameKind.local := by first | exact .inl rfl | exact .inr rfl | assumption) : QS X (PySem.Stmt.Assign [PySem.Expr.Name x pos'] e pos) (L2.tAsg te (L2.gName i)) := ⟨@L2.ps_set _ _ _ _ _ _ _ hN hi hx he.h hs hf⟩
theorem qs_asg {X : L2.Cx} {pos : PySem.Pos} {tg : PySem.Expr} {e : PySem.Expr} {te : L2.TE} {g : L2.TG} (he : QE X e te) (hg : QG X tg g) (hs : PySem.swapsWithSole [tg] e (PySem.Pos.line pos) (L2.Cx.env X) = Pure.pure Bool.false := by rfl) (hw : PySem.swappedStores [tg] e (L2.Cx.env X) = Pure.pure Option.none := by rfl) (h1 : List.map (fun (x : Bool × (PySem.Value → PySem.Sem Unit)) => Prod.snd x) (PySem.assignEach [tg] (L2.Cx.env X)) = [PySem.assign tg (L2.Cx.env X)] := by rfl) : QS X (PySem.Stmt.Assign [tg] e pos) (L2.tAsg te g) := ⟨@L2.ps_asg _ _ _ _ _ _ he.h hg.h hs hw h1⟩
theorem qs_expr {X : L2.Cx} {e : PySem.Expr} {te : L2.TE} {pos : PySem.Pos} (he : QE X e te) (hs : PySem.swapsWith e Option.none (PySem.Pos.line pos) (L2.Cx.env X) = Pure.pure Bool.false := by rfl) : QS X (PySem.Stmt.Expr e pos) (L2.tDrop te) := ⟨@L2.ps_expr _ _ _ _ he.h hs⟩
theorem qs_ret {X : L2.Cx} {e : PySem.Expr} {te : L2.TE} {pos : PySem.Pos} (he : QE X e te) : QS X (PySem.Stmt.Return (Option.some e) pos) (L2.tRet te) := ⟨@L2.ps_ret _ _ _ _ he.h⟩
theorem qs_if {X : L2.Cx} {t : L2.TS} {u : L2.TS} {pos : PySem.Pos} {c : PySem.Expr} {a : List PySem.Stmt} {b : List PySem.Stmt} {tc : L2.TT} (hc : QT X c tc) (ha : QSs X a t) (hb : QSs X b u) : QS X (PySem.Stmt.If c a b pos) (L2.tIfS tc t u) := ⟨@L2.ps_if _ _ _ _ _ _ _ _ hc.h ha.h hb.h⟩
theorem qs_for {X : L2.Cx} {tg : PySem.Expr} {iter : PySem.Expr} {body : List PySem.Stmt} {wi : L2.TI} {g : L2.TG} {tb : L2.TS} {pos : PySem.Pos} (hp : PySem.PassesOwn (PySem.model (L2.Cx.prog X) (L2.Cx.w X)) (L2.Cx.A X) (L2.Cx.env X) (L2.Cx.xe X)) (hc : L2.Cx.calm X = Bool.true) (hi : QI X tg iter wi) (hg : QG X tg g) (hb : QSs X body tb) (hs : ∀ (x : PySem.Value), PySem.foldedSetIterable iter (L2.Cx.env X) x = Pure.pure x := by intro _; rfl) : QS X (PySem.Stmt.For tg iter body [] pos) (L2.tFor wi g tb) := ⟨@L2.ps_for _ _ _ _ _ _ _ _ hp hc hi.h hg.h hb.h hs⟩
theorem qs_while {X : L2.Cx} {pos : PySem.Pos} {c : PySem.Expr} {body : List PySem.Stmt} {tc : L2.TT} {tb : L2.TS} (hp : PySem.PassesOwn (PySem.model (L2.Cx.prog X) (L2.Cx.w X)) (L2.Cx.A X) (L2.Cx.env X) (L2.Cx.xe X)) (hc : QT X c tc) (hb : QSs X body tb) : QS X (PySem.Stmt.While c body [] pos) (L2.tWhile tc tb) := ⟨@L2.ps_while _ _ _ _ _ _ hp hc.h hb.h⟩
theorem qe_op {X : L2.Cx} {a : PySem.Expr} {b : PySem.Expr} {ta : L2.TE} {tb : L2.TE} {pos : PySem.Pos} {op : PySem.Operator} {r : L2.R2} (ho : L2.OpR X (PySem.binaryOp op) r) (ha : QE X a ta) (hb : QE X b tb) : QE X (PySem.Expr.BinOp a op b pos) (L2.tOp r ta tb) := ⟨@L2.pe_op _ _ _ _ _ _ _ _ ho ha.h hb.h⟩
theorem qe_un {X : L2.Cx} {a : PySem.Expr} {ta : L2.TE} {pos : PySem.Pos} {op : PySem.UnaryOp} {r : L2.V → L2.Hp → L2.VK → Prop} (ho : L2.UnR X (PySem.unaryOp op) r) (ha : QE X a ta) : QE X (PySem.Expr.UnaryOp op a pos) (L2.tUn r ta) := ⟨@L2.pe_un _ _ _ _ _ _ ho ha.h⟩
theorem qe_not {X : L2.Cx} {a : PySem.Expr} {ta : L2.TE} {pos : PySem.Pos} (ha : QE X a ta) : QE X (PySem.Expr.UnaryOp PySem.UnaryOp.Not a pos) (L2.tNotV ta) := ⟨@L2.pe_not _ _ _ _ ha.h⟩
theorem qe_one {X : L2.Cx} {a : PySem.Expr} {pos : PySem.Pos} {op : PySem.BoolOp} {t : L2.TE} (h : QE X a t) : QE X (PySem.Expr.BoolOp op [a] pos) t := ⟨@L2.pe_one _ _ _ _ _ h.h⟩
theorem qe_and {X : L2.Cx} {a : PySem.Expr} {b : PySem.Expr} {ta : L2.TE} {tb : L2.TE} {pos : PySem.Pos} {rest : List PySem.Expr} (ha : QE X a ta) (hb : QE X (PySem.Expr.BoolOp PySem.BoolOp.And (b :: rest) pos) tb) : QE X (PySem.Expr.BoolOp PySem.BoolOp.And (a :: b :: rest) pos) (L2.tAndV ta tb) := ⟨@L2.pe_and _ _ _ _ _ _ _ ha.h hb.h⟩
theorem qe_or {X : L2.Cx} {a : PySem.Expr} {b : PySem.Expr} {ta : L2.TE} {tb : L2.TE} {pos : PySem.Pos} {rest : List PySem.Expr} (ha : QE X a ta) (hb : QE X (PySem.Expr.BoolOp PySem.BoolOp.Or (b :: rest) pos) tb) : QE X (PySem.Expr.BoolOp PySem.BoolOp.Or (a :: b :: rest) pos) (L2.tOrV ta tb) := ⟨@L2.pe_or _ _ _ _ _ _ _ ha.h hb.h⟩
theorem qe_cmpR {X : L2.Cx} {a : PySem.Expr} {b : PySem.Expr} {ta : L2.TE} {tb : L2.TE} {pos : PySem.Pos} {op : PySem.CmpOp} {r : L2.R2} (ho : L2.OpR X (PySem.compareOp op) r) (ha : QE X a ta) (hb : QE X b tb) (hm : PySem.behindInMarks op b = Bool.false) : QE X (PySem.Expr.Compare a [op] [b] pos) (L2.tOp r ta tb) := ⟨@L2.pe_cmpR _ _ _ _ _ _ _ _ ho ha.h hb.h hm⟩
theorem qe_chain {X : L2.Cx} {a : PySem.Expr} {b : PySem.Expr} {c : PySem.Expr} {ta : L2.TE} {tb : L2.TE} {tc : L2.TE} {pos : PySem.Pos} {op : PySem.CmpOp} {op' : PySem.CmpOp} {r : L2.R2} {r' : L2.R2} (ho : L2.OpR X (PySem.compareOp op) r) (ho' : L2.OpR X (PySem.compareOp op') r') (ha : QE X a ta) (hb : QE X b tb) (hc : QE X c tc) (hm : PySem.lastMarks [op, op'] [b, c] = Bool.false := by with_unfolding_all rfl) : QE X (PySem.Expr.Compare a [op, op'] [b, c] pos) (L2.tChain r r' ta tb tc) := ⟨@L2.pe_chain _ _ _ _ _ _ _ _ _ _ _ _ ho ho' ha.h hb.h hc.h hm⟩
theorem qe_ifExp {X : L2.Cx} {a : PySem.Expr} {b : PySem.Expr} {ta : L2.TE} {tb : L2.TE} {pos : PySem.Pos} {tA : L2.TT} {c : PySem.Expr} (hc : QT X c tA) (ha : QE X a ta) (hb : QE X b tb) : QE X (PySem.Expr.IfExp c a b pos) (L2.tIf tA ta tb) := ⟨@L2.pe_ifExp _ _ _ _ _ _ _ _ hc.h ha.h hb.h⟩
theorem qe_lst {X : L2.Cx} {es : List PySem.Expr} {t : L2.TA} {pos : PySem.Pos} (h : QA X es t) : QE X (PySem.Expr.List es pos) (L2.tLst t) := ⟨@L2.pe_lst _ _ _ _ h.h⟩
theorem qe_tup {X : L2.Cx} {es : List PySem.Expr} {t : L2.TA} {pos : PySem.Pos} {x1 : Nat} (h : QA X es t) : QE X (PySem.Expr.Tuple es x1 pos) (L2.tTup t) := ⟨@L2.pe_tup _ _ _ _ _ h.h⟩
theorem qe_slice {X : L2.Cx} {e : PySem.Expr} {te : L2.TE} {lo : Option PySem.Expr} {hi : Option PySem.Expr} {tl : L2.TO} {th : L2.TO} {pos : PySem.Pos} {p2 : PySem.Pos} {r : L2.V → Option Int → Option Int → L2.Hp → L2.VK → Prop} (hr : L2.SlR X r) (he : QE X e te) (hl : QO X lo tl) (hu : QO X hi th) : QE X (PySem.Expr.Subscript e (PySem.Expr.Slice lo hi Option.none p2) pos) (L2.tSl r te tl th) := ⟨@L2.pe_slice _ _ _ _ _ _ _ _ _ _ hr he.h hl.h hu.h⟩
theorem qe_ix {X : L2.Cx} {a : PySem.Expr} {b : PySem.Expr} {ta : L2.TE} {tb : L2.TE} {pos : PySem.Pos} {r : L2.R2} (hr : L2.IxR X r) (ha : QE X a ta) (hb : QE X b tb) (hs : L2.PlainIx b) : QE X (PySem.Expr.Subscript a b pos) (L2.tOp r ta tb) := ⟨@L2.pe_ix _ _ _ _ _ _ _ hr ha.h hb.h hs⟩
theorem qe_comp {X : L2.Cx} {elt : PySem.Expr} {iter : PySem.Expr} {ifs : List PySem.Expr} {sc : PySem.Scope} {pos : PySem.Pos} {px : PySem.Pos} {t : PySem.Str} {ys : List PySem.Str} {js : List Nat} {wi : L2.TI} {tc : L2.TT} {te : L2.TE} (hc : L2.Cx.calm X = Bool.true) (hck : L2.compChk (L2.Cx.N X) (PySem.Env.scope (L2.Cx.env X)) sc t ys js = Bool.true) (hi : QI X (PySem.Expr.Name t px) iter wi) (hf : ∀ (cl : List (PySem.Str × PySem.Addr)) (C : PySem.Addr) (s : PySem.Shared) (H : L2.Hp) (fp : List PySem.Addr), QIf (L2.Cx.comp X sc cl C (t :: ys) s H fp) ifs tc) (he : ∀ (cl : List (PySem.Str × PySem.Addr)) (C : PySem.Addr) (s : PySem.Shared) (H : L2.Hp) (fp : List PySem.Addr), QE (L2.Cx.comp X sc cl C (t :: ys) s H fp) elt te) (hs : ∀ (x : PySem.Value), PySem.foldedSetIterable iter (L2.Cx.env X) x = Pure.pure x := by intro _; rfl) : QE X (PySem.Expr.ListComp elt [{ target := PySem.Expr.Name t px, iter := iter, ifs := ifs, is_async := 0 }] sc pos) (L2.tComp wi js tc te) := ⟨@L2.pe_comp _ _ _ _ _ _ _ _ _ _ _ _ _ hc hck hi.h (fun cl C s H fp => (hf cl C s H fp).h) (fun cl C s H fp => (he cl C s H fp).h) hs⟩
theorem qe_call {X : L2.Cx} {CX : L2.CXT} {k : Nat} {f : PySem.Addr} {fd : PySem.FuncData} {ps : List PySem.Str} {sp : L2.Sp} {dvs : List L2.V} {ds : List PySem.Value} {E : L2.XK} {x : PySem.Str} {p : PySem.Pos} {pos : PySem.Pos} {e : PySem.Expr} {es : List PySem.Expr} {t : L2.TA} (F : L2.FnOk (L2.Cx.prog X) (L2.Cx.w X) (L2.Cx.K X) (L2.Cx.mg X) (L2.Cx.base X) CX k f fd ps sp) (hr : L2.Room k (L2.Cx.A X)) (hg : L2.Gl X x) (hm : L2.Cx.mg X x = Option.some (PySem.Value.ref f)) (hk : PySem.W.keepIn (L2.Cx.K X) (PySem.Value.ref f) = Bool.true) (hb : L2.Binds (L2.Cx.K X) fd ps ds) (hd : L2.Vals dvs ds) (hx : L2.Passes CX X E) (ha : QA X (e :: es) t) (hdb : (x == PySem.Str.ofString "__debug__") = Bool.false := by decide) (he : PySem.starEach (e :: es) (L2.Cx.env X) = (Bool.false, PySem.eval e (L2.Cx.env X)) :: PySem.starEach es (L2.Cx.env X) := by rfl) (hpl : (List.any (PySem.backTo pos (PySem.starEach es (L2.Cx.env X))) fun (x : Bool × PySem.Sem PySem.Value) => Prod.fst x) = Bool.false := by rfl) : QE X (PySem.Expr.Call (PySem.Expr.Name x p) (e :: es) [] pos) (L2.tCall sp dvs E t) := ⟨@L2.pe_call _ _ _ _ _ _ _ _ _ _ _ _ _ _ _ _ F hr hg hm hk hb hd hx ha.h hdb he hpl⟩
theorem qe_callB {X : L2.Cx} {x : PySem.Str} {p : PySem.Pos} {pos : PySem.Pos} {e : PySem.Expr} {es : List PySem.Expr} {t : L2.TA} {id : String} {r : List L2.V → L2.Hp → L2.VK → Prop} (hc : L2.CallR X (PySem.Value.builtin id) r) (hg : L2.Gl X x) (hm : L2.Cx.mg X x = Option.none) (hv : PySem.bootBuiltins x = Option.some (PySem.Value.builtin id)) (ha : QA X (e :: es) t) (hn : x ≠ PySem.Str.ofString "__name__" := by decide) (hdb : (x == PySem.Str.ofString "__debug__") = Bool.false := by decide) (he : PySem.starEach (e :: es) (L2.Cx.env X) = (Bool.false, PySem.eval e (L2.Cx.env X)) :: PySem.starEach es (L2.Cx.env X) := by rfl) (hpl : (List.any (PySem.backTo pos (PySem.starEach es (L2.Cx.env X))) fun (x : Bool × PySem.Sem PySem.Value) => Prod.fst x) = Bool.false := by rfl) : QE X (PySem.Expr.Call (PySem.Expr.Name x p) (e :: es) [] pos) (L2.tCB r t) := ⟨@L2.pe_callB _ _ _ _ _ _ _ _ _ hc hg hm hv ha.h hn hdb he hpl⟩
theorem qe_callTy {X : L2.Cx} {x : PySem.Str} {p : PySem.Pos} {pos : PySem.Pos} {e : PySem.Expr} {es : List PySem.Expr} {t : L2.TA} {T : String} {r : List L2.V → L2.Hp → L2.VK → Prop} (hc : L2.CallR X (PySem.Value.type T) r) (hg : L2.Gl X x) (hm : L2.Cx.mg X x = Option.none) (hv : PySem.bootBuiltins x = Option.some (PySem.Value.type T)) (ha : QA X (e :: es) t) (hn : x ≠ PySem.Str.ofString "__name__" := by decide) (hdb : (x == PySem.Str.ofString "__debug__") = Bool.false := by decide) (he : PySem.starEach (e :: es) (L2.Cx.env X) = (Bool.false, PySem.eval e (L2.Cx.env X)) :: PySem.starEach es (L2.Cx.env X) := by rfl) (hpl : (List.any (PySem.backTo pos (PySem.starEach es (L2.Cx.env X))) fun (x : Bool × PySem.Sem PySem.Value) => Prod.fst x) = Bool.false := by rfl) : QE X (PySem.Expr.Call (PySem.Expr.Name x p) (e :: es) [] pos) (L2.tCB r t) := ⟨@L2.pe_callTy _ _ _ _ _ _ _ _ _ hc hg hm hv ha.h hn hdb he hpl⟩
theorem qe_bm {X : L2.Cx} {o : PySem.Expr} {e : PySem.Expr} {es : List PySem.Expr} {to : L2.TE} {t : L2.TA} {name : PySem.Str} {apos : PySem.Pos} {cpos : PySem.Pos} {T : String} {id : String} {r : L2.V → List L2.V → L2.Hp → L2.VK → Prop} (pa : PySem.PlainAttrs T) (slot : PySem.Slot T name id) (hty : PySem.typeOf (PySem.Value.builtin id) = Pure.pure (PySem.Value.type "method_descriptor")) (hm : L2.MtR X id r) (ho : QE X o to) (ha : QA X (e :: es) t) (hbase : PySem.attributeBase o name (L2.Cx.env X) (PySem.eval o (L2.Cx.env X)) = PySem.eval o (L2.Cx.env X) := by rfl) (hfew : (((List.all (PySem.backTo cpos (PySem.starEach (e :: es) (L2.Cx.env X))) fun (x : Bool × PySem.Sem PySem.Value) => !Prod.fst x) && List.all (PySem.backToKw cpos (PySem.keywordEach [] (L2.Cx.env X))) fun (x : Option PySem.Str × PySem.Sem PySem.Value) => Option.isSome (Prod.fst x)) && Decidable.decide ((List.length (e :: es) + List.length ([] : List PySem.Keyword) + if List.isEmpty ([] : List PySem.Keyword) = Bool.true then 0 else 1) < 30)) = Bool.true := by rfl) (hline : (PySem.Pos.endLine apos == PySem.Pos.line cpos) = Bool.true := by rfl) (hs : PySem.starEach (e :: es) (L2.Cx.env X) = (Bool.false, PySem.eval e (L2.Cx.env X)) :: PySem.starEach es (L2.Cx.env X) := by rfl) (hplain : (List.any (PySem.backTo cpos (PySem.starEach es (L2.Cx.env X))) fun (x : Bool × PySem.Sem PySem.Value) => Prod.fst x) = Bool.false := by rfl) : QE X (PySem.Expr.Call (PySem.Expr.Attribute o name apos) (e :: es) [] cpos) (L2.tBM (L2.Cx.K X) T r to t) := ⟨@L2.pe_bm _ _ _ _ _ _ _ _ _ _ _ _ pa slot hty hm ho.h ha.h hbase hfew hline hs hplain⟩
theorem qe_bm0 {X : L2.Cx} {o : PySem.Expr} {to : L2.TE} {name : PySem.Str} {apos : PySem.Pos} {cpos : PySem.Pos} {T : String} {id : String} {r : L2.V → List L2.V → L2.Hp → L2.VK → Prop} (pa : PySem.PlainAttrs T) (slot : PySem.Slot T name id) (hty : PySem.typeOf (PySem.Value.builtin id) = Pure.pure (PySem.Value.type "method_descriptor")) (hm : L2.MtR X id r) (ho : QE X o to) (hbase : PySem.attributeBase o name (L2.Cx.env X) (PySem.eval o (L2.Cx.env X)) = PySem.eval o (L2.Cx.env X) := by rfl) (hline : (PySem.Pos.endLine apos == PySem.Pos.line cpos) = Bool.true := by rfl) : QE X (PySem.Expr.Call (PySem.Expr.Attribute o name apos) [] [] cpos) (L2.tBM0 (L2.Cx.K X) T r to) := ⟨@L2.pe_bm0 _ _ _ _ _ _ _ _ _ pa slot hty hm ho.h hbase hline⟩
theorem qt_not {X : L2.Cx} {a : PySem.Expr} {pos : PySem.Pos} {tA : L2.TT} (ha : QT X a tA) : QT X (PySem.Expr.UnaryOp PySem.UnaryOp.Not a pos) (L2.tNot tA) := ⟨@L2.pt_not _ _ _ _ ha.h⟩
theorem qt_val {X : L2.Cx} {e : PySem.Expr} {t : L2.TE} (h : QE X e t) (he : ∀ (whole : PySem.Sem PySem.Value), PySem.isTrue e (L2.Cx.env X) whole = (do let v ← whole; PySem.standAt (PySem.Expr.pos e); PySem.holding [v] (PySem.truthy v)) := by intro _; rfl) : QT X e (L2.tB t) := ⟨@L2.pt_val _ _ _ h.h he⟩
theorem qt_cmpR {X : L2.Cx} {a : PySem.Expr} {b : PySem.Expr} {ta : L2.TE} {tb : L2.TE} {pos : PySem.Pos} {op : PySem.CmpOp} {r : L2.R2} (ho : L2.OpR X (PySem.compareOp op) r) (ha : QE X a ta) (hb : QE X b tb) (hm : PySem.behindInMarks op b = Bool.false) : QT X (PySem.Expr.Compare a [op] [b] pos) (L2.tTest (L2.tOp r ta tb)) := ⟨@L2.pt_cmpR _ _ _ _ _ _ _ _ ho ha.h hb.h hm⟩
theorem qt_chain {X : L2.Cx} {a : PySem.Expr} {b : PySem.Expr} {c : PySem.Expr} {ta : L2.TE} {tb : L2.TE} {tc : L2.TE} {pos : PySem.Pos} {op : PySem.CmpOp} {op' : PySem.CmpOp} {r : L2.R2} {r' : L2.R2} (ho : L2.OpR X (PySem.compareOp op) r) (ho' : L2.OpR X (PySem.compareOp op') r') (ha : QE X a ta) (hb : QE X b tb) (hc : QE X c tc) (hm : PySem.lastMarks [op, op'] [b, c] = Bool.false := by with_unfolding_all rfl) : QT X (PySem.Expr.Compare a [op, op'] [b, c] pos) (L2.tTest (L2.tChain r r' ta tb tc)) := ⟨@L2.pt_chain _ _ _ _ _ _ _ _ _ _ _ _ ho ho' ha.h hb.h hc.h hm⟩
theorem qw_and {X : L2.Cx} {a : PySem.Expr} {b : PySem.Expr} {pos : PySem.Pos} {tA : L2.TT} {tB' : L2.TT} {rest : List PySem.Expr} (ha : QT X a tA) (hb : QW X (PySem.Expr.BoolOp PySem.BoolOp.And (b :: rest) pos) tB') : QW X (PySem.Expr.BoolOp PySem.BoolOp.And (a :: b :: rest) pos) (L2.tAnd tA tB') := ⟨@L2.pw_and _ _ _ _ _ _ _ ha.h hb.h⟩
theorem qw_or {X : L2.Cx} {a : PySem.Expr} {b : PySem.Expr} {pos : PySem.Pos} {tA : L2.TT} {tB' : L2.TT} {rest : List PySem.Expr} (ha : QT X a tA) (hb : QW X (PySem.Expr.BoolOp PySem.BoolOp.Or (b :: rest) pos) tB') : QW X (PySem.Expr.BoolOp PySem.BoolOp.Or (a :: b :: rest) pos) (L2.tOr tA tB') := ⟨@L2.pw_or _ _ _ _ _ _ _ ha.h hb.h⟩
theorem qw_and1 {X : L2.Cx} {a : PySem.Expr} {pos : PySem.Pos} {tA : L2.TT} (ha : QT X a tA) : QW X (PySem.Expr.BoolOp PySem.BoolOp.And [a] pos) tA := ⟨@L2.pw_and1 _ _ _ _ ha.h⟩
theorem qw_or1 {X : L2.Cx} {a : PySem.Expr} {pos : PySem.Pos} {tA : L2.TT} (ha : QT X a tA) : QW X (PySem.Expr.BoolOp PySem.BoolOp.Or [a] pos) tA := ⟨@L2.pw_or1 _ _ _ _ ha.h⟩
theorem qw_pt {X : L2.Cx} {e : PySem.Expr} {t : L2.TT} (h : QW X e t) : QT X e t := ⟨@L2.PW.pt _ _ _ h.h⟩
theorem qo_some {X : L2.Cx} {e : PySem.Expr} {te : L2.TE} (h : QE X e te) : QO X (Option.some e) (L2.tPart te) := ⟨@L2.po_some _ _ _ h.h⟩
theorem qi_list {X : L2.Cx} {tg : PySem.Expr} {l : PySem.Expr} {tl : L2.TE} (hl : QE X l tl) : QI X tg l (L2.iList (L2.Cx.K X) tl) := ⟨@L2.pi_list _ _ _ _ hl.h⟩
theorem qi_tup {X : L2.Cx} {tg : PySem.Expr} {l : PySem.Expr} {tl : L2.TE} (hl : QE X l tl) : QI X tg l (L2.iTup (L2.Cx.K X) tl) := ⟨@L2.pi_tup _ _ _ _ hl.h⟩
theorem qi_range1 {X : L2.Cx} {tg : PySem.Expr} {a : PySem.Expr} {ta : L2.TA} {p : PySem.Pos} {pos : PySem.Pos} (hg : L2.Gl X (PySem.Str.ofString "range")) (hm : L2.Cx.mg X (PySem.Str.ofString "range") = Option.none) (ha : QA X [a] ta) (hs : PySem.starEach [a] (L2.Cx.env X) = [(Bool.false, PySem.eval a (L2.Cx.env X))] := by rfl) : QI X tg (PySem.Expr.Call (PySem.Expr.Name (PySem.Str.ofString "range") p) [a] [] pos) (L2.iRng1 ta) := ⟨@L2.pi_range1 _ _ _ _ _ _ hg hm ha.h hs⟩
theorem qi_range2 {X : L2.Cx} {tg : PySem.Expr} {a : PySem.Expr} {b : PySem.Expr} {ta : L2.TA} {p : PySem.Pos} {pos : PySem.Pos} (hg : L2.Gl X (PySem.Str.ofString "range")) (hm : L2.Cx.mg X (PySem.Str.ofString "range") = Option.none) (ha : QA X [a, b] ta) (hs : PySem.starEach [a, b] (L2.Cx.env X) = [(Bool.false, PySem.eval a (L2.Cx.env X)), (Bool.false, PySem.eval b (L2.Cx.env X))] := by rfl) (hs2 : PySem.starEach [b] (L2.Cx.env X) = [(Bool.false, PySem.eval b (L2.Cx.env X))] := by rfl) : QI X tg (PySem.Expr.Call (PySem.Expr.Name (PySem.Str.ofString "range") p) [a, b] [] pos) (L2.iRng2 ta) := ⟨@L2.pi_range2 _ _ _ _ _ _ _ hg hm ha.h hs hs2⟩
theorem qg_name {X : L2.Cx} {pos : PySem.Pos} {i : Nat} {x : PySem.Str} (hN : List.Nodup (L2.Cx.N X)) (hi : (L2.Cx.N X)[i]? = Option.some x) (hx : L2.Loc (PySem.Env.scope (L2.Cx.env X)) x) (hf : L2.Cx.fn X x = Bool.true ∨ List.lookup x (PySem.Scope.names (PySem.Env.scope (L2.Cx.env X))) = Option.some PySem.NameKind.local := by first | exact .inl rfl | exact .inr rfl | assumption) : QG X (PySem.Expr.Name x pos) (L2.gName i) := ⟨@L2.pg_name _ _ _ _ hN hi hx hf⟩
theorem qg_sub {X : L2.Cx} {pos : PySem.Pos} {o : PySem.Expr} {i : PySem.Expr} {to : L2.TE} {ti : L2.TE} {t : L2.TSet} (ho : QE X o to) (hi : QE X i ti) (hs : L2.PSet X t) (ha : ∀ (v : PySem.Value), PySem.assign (PySem.Expr.Subscript o i pos) (L2.Cx.env X) v = (do let ov ← PySem.holding [v] (PySem.eval o (L2.Cx.env X)); let iv ← PySem.holding [v, ov] (PySem.eval i (L2.Cx.env X)); PySem.standAt pos; PySem.holding [v, ov, iv] (PySem.setItem ov iv v); PySem.release [v, ov, iv] []) := by intro _; rfl) : QG X (PySem.Expr.Subscript o i pos) (L2.gSub to ti t) := ⟨@L2.pg_sub _ _ _ _ _ _ _ ho.h hi.h hs ha⟩
theorem qg_tup {X : L2.Cx} {pos : PySem.Pos} {es : List PySem.Expr} {k : Nat} {t : L2.TGs} {n : Nat} (hc : L2.Cx.calm X = Bool.true) (h : QGs X es t) (hn : List.length (PySem.assignEach es (L2.Cx.env X)) = n := by rfl) (hst : List.findIdx? (fun (x : Bool × (PySem.Value → PySem.Sem Unit)) => Prod.fst x) (PySem.assignEach es (L2.Cx.env X)) = Option.none := by rfl) : QG X (PySem.Expr.Tuple es k pos) (L2.gTup (L2.Cx.K X) n t) := ⟨@L2.pg_tup _ _ _ _ _ _ hc h.h hn hst⟩
theorem qgs_cons {X : L2.Cx} {e : PySem.Expr} {es : List PySem.Expr} {t : L2.TG} {u : L2.TGs} (h1 : QG X e t) (h2 : QGs X es u) (hs : List.map (fun (x : Bool × (PySem.Value → PySem.Sem Unit)) => Prod.snd x) (PySem.assignEach (e :: es) (L2.Cx.env X)) = PySem.assign e (L2.Cx.env X) :: List.map (fun (x : Bool × (PySem.Value → PySem.Sem Unit)) => Prod.snd x) (PySem.assignEach es (L2.Cx.env X)) := by rfl) : QGs X (e :: es) (L2.gCons t u) := ⟨@L2.pgs_cons _ _ _ _ _ h1.h h2.h hs⟩
theorem qif_one {X : L2.Cx} {c : PySem.Expr} {t : L2.TT} (h : QT X c t) : QIf X [c] t := ⟨@L2.pif_one _ _ _ h.h⟩
theorem qaT {X : L2.Cx} {es : List PySem.Expr} {te : L2.TE} {t : L2.TA} {a : List PySem.Expr} {k : Nat} {p : PySem.Pos} (ha : QE X (PySem.Expr.Tuple a k p) te) (hr : QA X es t) : QA X (PySem.Expr.Tuple a k p :: es) (L2.tCons te t) := ⟨@L2.paT _ _ _ _ _ _ _ ha.h hr.h⟩
theorem qaL {X : L2.Cx} {es : List PySem.Expr} {te : L2.TE} {t : L2.TA} {a : List PySem.Expr} {p : PySem.Pos} (ha : QE X (PySem.Expr.List a p) te) (hr : QA X es t) : QA X (PySem.Expr.List a p :: es) (L2.tCons te t) := ⟨@L2.paL _ _ _ _ _ _ ha.h hr.h⟩
theorem qaC {X : L2.Cx} {es : List PySem.Expr} {te : L2.TE} {t : L2.TA} {c : PySem.Const} {k : Nat} {p : PySem.Pos} (ha : QE X (PySem.Expr.Constant c k p) te) (hr : QA X es t) : QA X (PySem.Expr.Constant c k p :: es) (L2.tCons te t) := ⟨@L2.paC _ _ _ _ _ _ _ ha.h hr.h⟩
theorem qaN {X : L2.Cx} {es : List PySem.Expr} {te : L2.TE} {t : L2.TA} {x : PySem.Str} {p : PySem.Pos} (ha : QE X (PySem.Expr.Name x p) te) (hr : QA X es t) : QA X (PySem.Expr.Name x p :: es) (L2.tCons te t) := ⟨@L2.paN _ _ _ _ _ _ ha.h hr.h⟩
theorem qaB {X : L2.Cx} {es : List PySem.Expr} {te : L2.TE} {t : L2.TA} {l : PySem.Expr} {r : PySem.Expr} {o : PySem.Operator} {p : PySem.Pos} (ha : QE X (PySem.Expr.BinOp l o r p) te) (hr : QA X es t) : QA X (PySem.Expr.BinOp l o r p :: es) (L2.tCons te t) := ⟨@L2.paB _ _ _ _ _ _ _ _ ha.h hr.h⟩
theorem qaS {X : L2.Cx} {es : List PySem.Expr} {te : L2.TE} {t : L2.TA} {v : PySem.Expr} {i : PySem.Expr} {p : PySem.Pos} (ha : QE X (PySem.Expr.Subscript v i p) te) (hr : QA X es t) : QA X (PySem.Expr.Subscript v i p :: es) (L2.tCons te t) := ⟨@L2.paS _ _ _ _ _ _ _ ha.h hr.h⟩
theorem qaK {X : L2.Cx} {es : List PySem.Expr} {te : L2.TE} {t : L2.TA} {f : PySem.Expr} {a : List PySem.Expr} {k : List PySem.Keyword} {p : PySem.Pos} (ha : QE X (PySem.Expr.Call f a k p) te) (hr : QA X es t) : QA X (PySem.Expr.Call f a k p :: es) (L2.tCons te t) := ⟨@L2.paK _ _ _ _ _ _ _ _ ha.h hr.h⟩
theorem qaM {X : L2.Cx} {es : List PySem.Expr} {te : L2.TE} {t : L2.TA} {l : PySem.Expr} {o : List PySem.CmpOp} {c : List PySem.Expr} {p : PySem.Pos} (ha : QE X (PySem.Expr.Compare l o c p) te) (hr : QA X es t) : QA X (PySem.Expr.Compare l o c p :: es) (L2.tCons te t) := ⟨@L2.paM _ _ _ _ _ _ _ _ ha.h hr.h⟩
theorem qaI {X : L2.Cx} {es : List PySem.Expr} {te : L2.TE} {t : L2.TA} {c : PySem.Expr} {a : PySem.Expr} {b : PySem.Expr} {p : PySem.Pos} (ha : QE X (PySem.Expr.IfExp c a b p) te) (hr : QA X es t) : QA X (PySem.Expr.IfExp c a b p :: es) (L2.tCons te t) := ⟨@L2.paI _ _ _ _ _ _ _ _ ha.h hr.h⟩
theorem qaO {X : L2.Cx} {es : List PySem.Expr} {te : L2.TE} {t : L2.TA} {o : PySem.BoolOp} {v : List PySem.Expr} {p : PySem.Pos} (ha : QE X (PySem.Expr.BoolOp o v p) te) (hr : QA X es t) : QA X (PySem.Expr.BoolOp o v p :: es) (L2.tCons te t) := ⟨@L2.paO _ _ _ _ _ _ _ ha.h hr.h⟩
theorem qaU {X : L2.Cx} {es : List PySem.Expr} {te : L2.TE} {t : L2.TA} {o : PySem.UnaryOp} {v : PySem.Expr} {p : PySem.Pos} (ha : QE X (PySem.Expr.UnaryOp o v p) te) (hr : QA X es t) : QA X (PySem.Expr.UnaryOp o v p :: es) (L2.tCons te t) := ⟨@L2.paU _ _ _ _ _ _ _ ha.h hr.h⟩
theorem qaE {X : L2.Cx} {es : List PySem.Expr} {te : L2.TE} {t : L2.TA} {e : PySem.Expr} {g : List PySem.Comprehension} {s : PySem.Scope} {p : PySem.Pos} (ha : QE X (PySem.Expr.ListComp e g s p) te) (hr : QA X es t) : QA X (PySem.Expr.ListComp e g s p :: es) (L2.tCons te t) := ⟨@L2.paE _ _ _ _ _ _ _ _ ha.h hr.h⟩
theorem qaJ {X : L2.Cx} {es : List PySem.Expr} {te : L2.TE} {t : L2.TA} {v : List PySem.Expr} {p : PySem.Pos} (ha : QE X (PySem.Expr.JoinedStr v p) te) (hr : QA X es t) : QA X (PySem.Expr.JoinedStr v p :: es) (L2.tCons te t) := ⟨@L2.paJ _ _ _ _ _ _ ha.h hr.h⟩
theorem qaA {X : L2.Cx} {es : List PySem.Expr} {te : L2.TE} {t : L2.TA} {v : PySem.Expr} {n : PySem.Str} {p : PySem.Pos} (ha : QE X (PySem.Expr.Attribute v n p) te) (hr : QA X es t) : QA X (PySem.Expr.Attribute v n p :: es) (L2.tCons te t) := ⟨@L2.paA _ _ _ _ _ _ _ ha.h hr.h⟩
theorem qaD {X : L2.Cx} {es : List PySem.Expr} {te : L2.TE} {t : L2.TA} {a : List (Option PySem.Expr)} {v : List PySem.Expr} {p : PySem.Pos} (ha : QE X (PySem.Expr.Dict a v p) te) (hr : QA X es t) : QA X (PySem.Expr.Dict a v p :: es) (L2.tCons te t) := ⟨@L2.paD _ _ _ _ _ _ _ ha.h hr.h⟩
theorem qe_maxD {X : L2.Cx} {e : PySem.Expr} {te : L2.TE} {n : Int} {j : Nat} {p : PySem.Pos} {pos : PySem.Pos} {kp : PySem.Pos} {cp : PySem.Pos} (hc : L2.Cx.calm X = Bool.true) (hg : L2.Gl X (PySem.Str.ofString "max")) (hm : L2.Cx.mg X (PySem.Str.ofString "max") = Option.none) (he : QE X e te) (hst : PySem.starEach [e] (L2.Cx.env X) = [(Bool.false, PySem.eval e (L2.Cx.env X))] := by rfl) : QE X (PySem.Expr.Call (PySem.Expr.Name (PySem.Str.ofString "max") p) [e] [{ arg := Option.some (PySem.Str.ofString "default"), value := PySem.Expr.Constant (PySem.Const.int n) j cp, pos := kp }] pos) (L2.tMaxD (L2.Cx.K X) te n) := ⟨@L2.pe_maxD _ _ _ _ _ _ _ _ _ hc hg hm he.h hst⟩
theorem qv {X : L2.Cx} (i : Nat) {x : PySem.Str} {pos : PySem.Pos} (hN : (L2.Cx.N X)[i]? = Option.some x := by rfl) (hv : L2.Vis (PySem.Env.scope (L2.Cx.env X)) x := by first | exact Or.inl rfl | exact Or.inr (Or.inl rfl) | exact Or.inr (Or.inr rfl)) (hd : (x == PySem.Str.ofString "__debug__") = Bool.false := by decide) (hcd : (x == PySem.Str.ofString "__classdict__") = Bool.false := by decide) : QE X (PySem.Expr.Name x pos) (L2.tVar i) := ⟨@L2.pv _ i _ _ hN hv hd hcd⟩
theorem qe_int {X : L2.Cx} {i : Int} {j : Nat} {pos : PySem.Pos} : QE X (PySem.Expr.Constant (PySem.Const.int i) j pos) (L2.tC (L2.V.int i)) := ⟨@L2.pe_int _ _ _ _⟩
theorem qe_str {X : L2.Cx} {x : PySem.Str} {j : Nat} {pos : PySem.Pos} : QE X (PySem.Expr.Constant (PySem.Const.str x) j pos) (L2.tC (L2.V.str x)) := ⟨@L2.pe_str _ _ _ _⟩
theorem qe_bl {X : L2.Cx} {b : Bool} {j : Nat} {pos : PySem.Pos} : QE X (PySem.Expr.Constant (PySem.Const.bool b) j pos) (L2.tC (L2.V.bl b)) := ⟨@L2.pe_bl _ _ _ _⟩
theorem qe_non {X : L2.Cx} {j : Nat} {pos : PySem.Pos} : QE X (PySem.Expr.Constant PySem.Const.none j pos) (L2.tC L2.V.non) := ⟨@L2.pe_non _ _ _⟩
theorem qe_glob {X : L2.Cx} {x : PySem.Str} {v : L2.V} {u : PySem.Value} {pos : PySem.Pos} (hg : L2.Gl X x) (hm : L2.Cx.mg X x = Option.some u) (r : L2.RelV v u) (hd : (x == PySem.Str.ofString "__debug__") = Bool.false := by decide) : QE X (PySem.Expr.Name x pos) (L2.tC v) := ⟨@L2.pe_glob _ _ _ _ _ hg hm r hd⟩
theorem qe_bltn {X : L2.Cx} {x : PySem.Str} {v : L2.V} {u : PySem.Value} {pos : PySem.Pos} (hg : L2.Gl X x) (hm : L2.Cx.mg X x = Option.none) (hv : PySem.bootBuiltins x = Option.some u) (r : L2.RelV v u) (hn : x ≠ PySem.Str.ofString "__name__" := by decide) (hd : (x == PySem.Str.ofString "__debug__") = Bool.false := by decide) : QE X (PySem.Expr.Name x pos) (L2.tC v) := ⟨@L2.pe_bltn _ _ _ _ _ hg hm hv r hn hd⟩
theorem qss_nil {X : L2.Cx} : QSs X [] L2.tNext := ⟨@L2.pss_nil _⟩
theorem qss_never {X : L2.Cx} {sts : List PySem.Stmt} : QSs X sts L2.tNever := ⟨@L2.pss_never _ _⟩
theorem qs_never {X : L2.Cx} {st : PySem.Stmt} : QS X st L2.tNever := ⟨@L2.ps_never _ _⟩
theorem qs_retN {X : L2.Cx} {pos : PySem.Pos} : QS X (PySem.Stmt.Return Option.none pos) L2.tRetN := ⟨@L2.ps_retN _ _⟩
theorem qs_pass {X : L2.Cx} {pos : PySem.Pos} : QS X (PySem.Stmt.Pass pos) L2.tNext := ⟨@L2.ps_pass _ _⟩
theorem qs_break {X : L2.Cx} {pos : PySem.Pos} : QS X (PySem.Stmt.Break pos) L2.tBreak := ⟨@L2.ps_break _ _⟩
theorem qs_continue {X : L2.Cx} {pos : PySem.Pos} : QS X (PySem.Stmt.Continue pos) L2.tCont := ⟨@L2.ps_continue _ _⟩
theorem qa_nil {X : L2.Cx} : QA X [] L2.tNil := ⟨@L2.pa_nil _⟩
theorem qo_none {X : L2.Cx} : QO X Option.none L2.tNoPart := ⟨@L2.po_none _⟩
theorem qif_nil {X : L2.Cx} : QIf X [] L2.tYes := ⟨@L2.pif_nil _⟩
theorem qgs_nil {X : L2.Cx} : QGs X [] L2.gNil := ⟨@L2.pgs_nil _⟩
theorem qt_truth {X : L2.Cx} {a : PySem.Expr} {ta : L2.TE} (ha : QE X a ta) (he : ∀ (whole : PySem.Sem PySem.Value), PySem.isTrue a (L2.Cx.env X) whole = (do let v ← whole; PySem.standAt (PySem.Expr.pos a); PySem.holding [v] (PySem.truthy v))) : QT X a fun (σ : L2.St) (H : L2.Hp) (Q : Bool → L2.Hp → Prop) => ta σ H fun (x : L2.V) (H' : L2.Hp) => ∃ (k : Bool), L2.TruV (L2.Cx.K X) x H' k ∧ Q k H' := ⟨@L2.pt_truth _ _ _ ha.h he⟩
theorem qe_callTy0 {X : L2.Cx} {x : PySem.Str} {p : PySem.Pos} {pos : PySem.Pos} {T : String} {r : List L2.V → L2.Hp → L2.VK → Prop} (hc : L2.CallR X (PySem.Value.type T) r) (hg : L2.Gl X x) (hm : L2.Cx.mg X x = Option.none) (hv : PySem.bootBuiltins x = Option.some (PySem.Value.type T)) (hn : x ≠ PySem.Str.ofString "__name__" := by decide) (hdb : (x == PySem.Str.ofString "__debug__") = Bool.false := by decide) : QE X (PySem.Expr.Call (PySem.Expr.Name x p) [] [] pos) (L2.tCB r L2.tNil) := ⟨@L2.pe_callTy0 _ _ _ _ _ _ hc hg hm hv hn hdb⟩
theorem qe_call0 {X : L2.Cx} {CX : L2.CXT} {k : Nat} {f : PySem.Addr} {fd : PySem.FuncData} {ps : List PySem.Str} {sp : L2.Sp} {dvs : List L2.V} {ds : List PySem.Value} {E : L2.XK} {x : PySem.Str} {p : PySem.Pos} {pos : PySem.Pos} (F : L2.FnOk (L2.Cx.prog X) (L2.Cx.w X) (L2.Cx.K X) (L2.Cx.mg X) (L2.Cx.base X) CX k f fd ps sp) (hr : L2.Room k (L2.Cx.A X)) (hg : L2.Gl X x) (hm : L2.Cx.mg X x = Option.some (PySem.Value.ref f)) (hk : PySem.W.keepIn (L2.Cx.K X) (PySem.Value.ref f) = Bool.true) (hb : L2.Binds (L2.Cx.K X) fd ps ds) (hd : L2.Vals dvs ds) (hx : L2.Passes CX X E) (hdb : (x == PySem.Str.ofString "__debug__") = Bool.false := by decide) : QE X (PySem.Expr.Call (PySem.Expr.Name x p) [] [] pos) (L2.tCall sp dvs E L2.tNil) := ⟨@L2.pe_call0 _ _ _ _ _ _ _ _ _ _ _ _ _ F hr hg hm hk hb hd hx hdb⟩

section
variable {P : Program} {w : World} {K : PySem.W.Frag} {mg : Str → Option Value} {base : Heap}
theorem Fun.okQ {x qual : Str} {st : Stmt} {f : Addr} {fd : FuncData} {N ps : List Str} {k : Nat} {sp : Sp} (F : Fun K x qual st f fd) (S : FnScope N ps (defScope st)) (len : ∀ vs H Q E, sp vs H Q E → vs.length = ps.length)
    (hbody : ∀ (cdv : Value) (A : Around) (outer : List Env) (s : Shared) (H : Hp) (vs : List V) (Q : VK) (E : XK), Room k (A.deeper (envOfC qual (defScope st) s.heap.objs.size f cdv)) → sp vs H Q E →
      ∃ t, QSs (cxOf CX0 P w K mg base N qual (defScope st) f cdv A outer s H E).nox (defBody st) t ∧ t { nx := fun _ H' => Q .non H', rt := Q } (start N vs) H) : FnOk P w K mg base CX0 (k + 1) f fd ps sp :=
  F.ok S len fun cdv A outer s H vs Q E hr h => let ⟨t, h1, h2⟩ := hbody cdv A outer s H vs Q E hr h; ⟨t, h1.h, h2⟩
end
end L2
set_option Elab.async false
set_option linter.all false
set_option maxRecDepth 100000
set_option maxHeartbeats 4000000
namespace L2
open PySem PySem.Spec PyProof.Rows
/-! ### classes of refusals of one's own, below ValueError -/
abbrev vbm : List Value := [.type "ValueError", .type "Exception", .type "BaseException", .type "object"]
abbrev ExcC (K : PySem.W.Frag) (C : Addr) : Prop := PySem.W.excIn K C vbm "ValueError.__new__" = true
theorem exc_obj {K : PySem.W.Frag} {h : Heap} {C : Addr} {bmB : List Value} {newId : String} (X : K.In h) (q : PySem.W.excIn K C bmB newId = true) :
    ∃ bm N nm qn bs hdct sn sub ab col dd k0 k1 k2 k3 k5 mN, h.get? C = some (excClassObj nm qn C N bs bm hdct sn sub ab col dd k0 k1 k2 k3 k5 newId) ∧ h.Ns N mN ∧ mN "__init__" = none ∧ OwnTail h bmB bm ∧
      ∀ v b, PySem.W.mroIn K C v = some b → (Value.ref C :: bm).contains v = b := by
  unfold PySem.W.excIn at q
  split at q
  · rename_i dd cd sl ho
    split at q
    · rename_i C' bm k0 k1 k2 k3 n k5 hm hs
      simp only [Bool.and_eq_true, beq_iff_eq, Bool.not_eq_true'] at q
      obtain ⟨⟨⟨⟨⟨rfl, rfl⟩, hdel⟩, ht⟩, hok⟩, hni⟩ := q
      obtain ⟨nm, bs, mro, ns, qn, hd, sn, sub, ab, col, del⟩ := cd
      dsimp only at hm hdel hok hni
      subst hm hdel
      have hsl : sl = #[k0, k1, k2, k3, some (.builtin n), k5] := by
        obtain ⟨l⟩ := sl
        simp only at hs
        rw [hs]
      subst hsl
      refine ⟨bm, ns, nm, qn, bs, hd, sn, sub, ab, col, dd, k0, k1, k2, k3, k5, _, X _ _ ho, .of_isNs (PySem.W.isNs_of_in X hok), PySem.W.nsMap_none_of_in X hok hni, PySem.W.tail_of_in X ht, fun v b e => ?_⟩
      unfold PySem.W.mroIn PySem.W.clsIn at e
      rw [ho] at e
      simpa using e
    · cases q
  · cases q
/-- an exception of one's own, caught by a class above it -/
theorem excMatches_own {M : Model} {A : Around} {E : Value → Shared → Prop} {K : PySem.W.Frag} {h : Heap} {g : Array GenState} {d : Drawn} {t : Nat} {os : OsState} {e C D : Addr} {oe : Obj} {b : Bool} {Q : Bool → Shared → Prop} (X : K.In h)
    (hC : ExcC K C) (hD : ExcC K D) (he : h.get? e = some oe) (hcls : oe.cls = .ref C) (hm : PySem.W.mroIn K C (.ref D) = some b) (hq : Q b ⟨h, g, d, t, os⟩) : wpAny M A (excMatches (.ref e) (.ref D)) Q E ⟨h, g, d, t, os⟩ := by
  obtain ⟨bm, N, nm, qn, bs, hdct, sn, sub, ab, col, dd, k0, k1, k2, k3, k5, mN, oC, _, _, _, mroC⟩ := exc_obj X hC
  obtain ⟨bm', N', nm', qn', bs', hdct', sn', sub', ab', col', dd', l0, l1, l2, l3, l5, mN', oD, _, _, TD, _⟩ := exc_obj X hD
  have hcB : (Value.ref D :: bm').contains (.type "BaseException") = true := by
    rw [List.contains_cons, TD.hasType (X := "BaseException") (b := true) (by decide), Bool.or_true]
  have hcC : (Value.ref C :: bm).contains (.ref D) = b := mroC _ _ hm
  have f := tc_notTuple
  unfold excMatches
  repeat (first | (with_reducible refine wpAny_loadPart_at he ?_; rw [hcls]) | with_reducible refine wpAny_loadPart_at oD ?_ | (with_reducible refine wpAny_isSubtype_exc oD ?_; rw [hcB]) | (with_reducible refine wpAny_isSubtype_exc oC ?_; rw [hcC]) | wp_step)
  all_goals (cases b <;> first | exact hq | (wp_walk; exact hq))
/-! ### how an exception lies behind a call -/
theorem ObjOk.there {P : Program} {w : World} {H : Hp} {h : Heap} {a : Addr} {o : HO} (x : ObjOk P w H h a o) : ∃ ob, h.get? a = some ob := by
  cases o with
  | lst xs => obtain ⟨_, _, _, _, e⟩ := x; exact ⟨_, e⟩
  | tup xs => obtain ⟨_, _, _, p⟩ := x; obtain ⟨ob, e, _⟩ := p; exact ⟨ob, e⟩
  | dK kvs => obtain ⟨_, _, _, _, o, _, _, e, _⟩ := x; exact ⟨_, e⟩
  | dT kvs => obtain ⟨_, _, _, _, o, _, _, e, _⟩ := x; exact ⟨_, e⟩
  | set S n => obtain ⟨o, _, _, _, e, _⟩ := x; exact ⟨_, e⟩
  | ins C dx fs => obtain ⟨_, _, _, e, _⟩ := x; exact ⟨_, e⟩
  | own y => exact x
  | xd fs => obtain ⟨_, ⟨_, _, _, e, _⟩, _⟩ := x; exact ⟨_, e⟩
  | rng lo hi => obtain ⟨_, _, _, e⟩ := x; exact ⟨_, e⟩
  | frz ob u => obtain ⟨e, _⟩ := x; exact ⟨_, e⟩
  | tbl ps => exact ⟨_, show h.get? a = some _ from x⟩
  | met f y => exact ⟨_, show h.get? a = some _ from x⟩
  | ext φ => obtain ⟨_, e, _⟩ := x; exact e
structure XO (P : Program) (w : World) (outer : List Env) (H : Hp) (s : Shared) (cls : Value) (a : Addr) (H' : Hp) (s' : Shared) : Prop where
  os : s'.os = s.os
  bare : AllBare s'.gens
  un : Un (frs outer) [] H H' s.heap s'.heap
  hok : HOk P w H' s'.heap
  new : s.heap.get? a = none
  free : H' a = none
  fly : ∃ B a0, Heap.FlyingW B outer a cls a0 s'.heap ∧ ∀ b o, (H' b ≠ none ∨ ∃ o', s.heap.get? b = some o') → b ∉ frs outer → s'.heap.get? b = some o → B.get? b = some o
def CXe (P : Program) (w : World) : CXT := fun outer H s E e s' => ∃ a cls H', e = .ref a ∧ XO P w outer H s cls a H' s' ∧ E cls none H'
section
variable {X : Cx} {pins : List (Addr × Obj)} {σ : St} {H H' : Hp} {s s' : Shared} {M : Model} {E' : Value → Shared → Prop} {a : Addr} {cls : Value}
/-- what stays when an exception goes by: all that isn't a frame; of frames the slots may change -/
theorem Un.fly {fs : List Addr} {H0 : Hp} {h0 h h' B : Heap} {fr : List Addr} (u : Un fs [] H0 H h0 h) (hfs : ∀ b ∈ fr, b ∈ fs ∨ ∀ o, h0.get? b ≠ some o) (stay : B.StaysIn h') (big : ∀ b o, h.get? b = some o → b ∉ fr → (H b ≠ none ∨ ∃ o', h0.get? b = some o') → B.get? b = some o)
    (slots : ∀ b o, h.get? b = some o → b ∈ fr → ∃ sl, h'.get? b = some { o with slots := sl }) (sub : ∀ b ∈ fs, b ∈ fr) : Un fs [] H0 H h0 h' where
  keep := fun b o q n hb hx => by
    have e := u.keep b o q n hb hx
    have hf : b ∉ fr := fun z => by
      rcases hfs b z with y | y
      · exact hb y
      · exact y o q
    exact stay b o (big b o e hf (.inr ⟨o, q⟩))
  slot := fun b o q n hb hx => by
    obtain ⟨sl, e⟩ := u.slot b o q n hb hx
    obtain ⟨sl', e'⟩ := slots b _ e (sub b hb)
    exact ⟨sl', e'⟩
  free := u.free
  there := fun b o q hx => by
    obtain ⟨o', e⟩ := u.there b o q hx
    by_cases hf : b ∈ fr
    · obtain ⟨sl, e'⟩ := slots b o' e hf
      exact ⟨_, e'⟩
    · exact ⟨o', stay b o' (big b o' e hf (.inr ⟨o, q⟩))⟩
  tups := u.tups
  frzs := u.frzs
  tbls := u.tbls
theorem HOk.fly {P : Program} {w : World} {H : Hp} {h h' B : Heap} {fr : List Addr} (ok : HOk P w H h) (hfr : ∀ b ∈ fr, H b = none) (stay : B.StaysIn h') (big : ∀ b o, h.get? b = some o → b ∉ fr → H b ≠ none → B.get? b = some o) : HOk P w H h' := fun a o e => by
  refine (ok a o e).stay (fun b u hb q => ?_) (fun _ q => q) fun _ _ q => q
  have hn : H b ≠ none := by
    rcases hb with rfl | hb
    · rw [e]; exact fun z => nomatch z
    · rw [hb]; exact fun z => nomatch z
  exact stay b u (big b u q (fun z => hn (hfr b z)) hn)
theorem frs_cons {env : Env} {l : List Env} {L : Addr} (h : env.frame = some L) : frs (env :: l) = L :: frs l := by
  unfold frs
  rw [List.filterMap_cons, h]
/-- a refusal of one's own leaves the def in which it is made -/
theorem Inv.raise (I : Inv X pins σ H s) (hs : X.stack = X.env :: X.outer) (hf : X.env.frame = some X.env.locals) (hex : X.ex = []) {h1 : Heap} {args : List Value} (hx : Heap.MadeExcOf s.heap h1 a cls args) :
    wpAny M X.A (leaving X.env (.ref a)) (fun _ s'' => XO X.prog X.w X.outer X.H₀ X.s₀ cls a H s'') E' { s with heap := h1 } := by
  have hfr : X.A.frames = some (X.env :: X.outer) := by rw [← hs]; exact I.ok.frames
  have hFF : s.heap.FunFrames X.base (X.env :: X.outer) := by rw [← hs]; exact I.stack
  have hin : ∀ env ∈ (X.env :: X.outer), ∀ b, env.frame = some b → b ∈ frs (X.env :: X.outer) := fun env he b hb => List.mem_filterMap.mpr ⟨env, he, hb⟩
  have hfree : ∀ b ∈ frs (X.env :: X.outer), H b = none := by rw [← hs]; exact I.stkFree
  have ub : Un X.fs [] X.H₀ H X.s₀.heap s.heap := by have := I.base; rw [hex] at this; exact this
  have nL : ∀ o, X.s₀.heap.get? X.env.locals ≠ some o := fun o z => absurd (Nat.lt_of_lt_of_le (Heap.lt_size z) I.ok.above) (Nat.lt_irrefl _)
  have big : ∀ b o, s.heap.get? b = some o → b ∉ frs (X.env :: X.outer) → (PySem.W.hideAll s.heap (frs (X.env :: X.outer))).get? b = some o := fun b o e n => PySem.W.hideAll_get _ e n
  refine wpAny_leaves_madeW (base := PySem.W.hideAll s.heap (frs (X.env :: X.outer))) hfr hf (fun b o q => PySem.W.of_hideAll _ q) (PySem.W.funFrames_hide hFF hin) hx fun h' t fl _ _ up => ?_
  have slots : ∀ b o, s.heap.get? b = some o → b ∈ frs (X.env :: X.outer) → ∃ sl, h'.get? b = some { o with slots := sl } := fun b o e hb => by
    obtain ⟨_, o', e', nf⟩ := hFF.mem hb
    rw [e] at e'
    cases e'
    exact up b o (hx.keeps b o e) nf
  have hfs : ∀ b ∈ frs (X.env :: X.outer), b ∈ X.fs ∨ ∀ o, X.s₀.heap.get? b ≠ some o := fun b hb => by
    rw [frs_cons hf] at hb
    rcases List.mem_cons.mp hb with rfl | hb
    · exact .inr nL
    · exact .inl hb
  have sub : ∀ b ∈ X.fs, b ∈ frs (X.env :: X.outer) := fun b hb => by
    rw [frs_cons hf]
    exact List.mem_cons_of_mem _ hb
  refine ⟨I.os, I.bare, ub.fly hfs fl.1 (fun b o e n _ => big b o e n) slots sub, I.hok.fly hfree fl.1 (fun b o e n _ => big b o e n), ?_, ?_, _, _, fl, fun b o hb hn e => ?_⟩
  · cases q : X.s₀.heap.get? a with
    | none => rfl
    | some o =>
      obtain ⟨o', e⟩ := ub.there a o q (by simp)
      have := hx.new
      rw [e] at this
      cases this
  · cases q : H a with
    | none => rfl
    | some o =>
      obtain ⟨ob, e⟩ := (I.hok a o q).there
      have := hx.new
      rw [e] at this
      cases this
  · have hbs : ∃ ob, s.heap.get? b = some ob := by
      rcases hb with hb | ⟨o', hb⟩
      · cases q : H b with
        | none => exact absurd q hb
        | some u => exact (I.hok b u q).there
      · exact ub.there b o' hb (by simp)
    have hnL : b ∉ frs (X.env :: X.outer) := fun z => by
      rw [frs_cons hf] at z
      rcases List.mem_cons.mp z with rfl | z
      · rcases hb with hb | ⟨o', hb⟩
        · exact hb I.free
        · exact nL o' hb
      · exact hn z
    obtain ⟨ob, e1⟩ := hbs
    have e2 := big b ob e1 hnL
    have e3 := fl.1 b ob e2
    rw [e] at e3
    cases e3
    exact e2
/-- .. or one through which it passes -/
theorem Inv.pass (I : Inv X pins σ H s) (hs : X.stack = X.env :: X.outer) (hf : X.env.frame = some X.env.locals) (hex : X.ex = []) (x : XO X.prog X.w X.stack H s cls a H' s') :
    wpAny M X.A (leaving X.env (.ref a)) (fun _ s'' => XO X.prog X.w X.outer X.H₀ X.s₀ cls a H' s'') E' s' := by
  rw [hs] at x
  have hfr : X.A.frames = some (X.env :: X.outer) := by rw [← hs]; exact I.ok.frames
  obtain ⟨B, a0, fly, big⟩ := x.fly
  have ub : Un X.fs [] X.H₀ H X.s₀.heap s.heap := by have := I.base; rw [hex] at this; exact this
  have nL : ∀ o, X.s₀.heap.get? X.env.locals ≠ some o := fun o z => absurd (Nat.lt_of_lt_of_le (Heap.lt_size z) I.ok.above) (Nat.lt_irrefl _)
  have hfree : ∀ b ∈ frs (X.env :: X.outer), H b = none := by rw [← hs]; exact I.stkFree
  have hFF : s.heap.FunFrames X.base (X.env :: X.outer) := by rw [← hs]; exact I.stack
  have hsub : ∀ b ∈ X.fs, b ∈ frs (X.env :: X.outer) := fun b hb => by
    rw [frs_cons hf]
    exact List.mem_cons_of_mem _ hb
  -- from the entry to where the callee left
  have ut : Un X.fs [] X.H₀ H' X.s₀.heap s'.heap := by
    have nofr : ∀ b o, X.s₀.heap.get? b = some o → b ∉ X.fs → b ∉ frs (X.env :: X.outer) := fun b o q hb z => by
      rw [frs_cons hf] at z
      rcases List.mem_cons.mp z with rfl | z
      · exact nL o q
      · exact hb z
    refine ⟨fun b o q n hb hx => x.un.keep b o (ub.keep b o q n hb hx) (ub.free b o q n hx) (nofr b o q hb) (by simp), fun b o q n hb hx => ?_, fun b o q n hx => ?_, fun b o q hx => ?_, fun b xs q => x.un.tups b xs (ub.tups b xs q), fun b o u q => x.un.frzs b o u (ub.frzs b o u q), fun b ps q => ?_⟩
    · obtain ⟨sl, e⟩ := ub.slot b o q n hb hx
      obtain ⟨sl', e'⟩ := x.un.slot b _ e (ub.free b o q n hx) (hsub b hb) (by simp)
      exact ⟨sl', e'⟩
    · obtain ⟨o', e⟩ := ub.there b o q hx
      exact x.un.free b o' e (ub.free b o q n hx) (by simp)
    · obtain ⟨o', e⟩ := ub.there b o q hx
      exact x.un.there b o' e (by simp)
    · obtain ⟨m1, e1⟩ := ub.tbls b ps q
      obtain ⟨m2, e2⟩ := x.un.tbls b _ e1
      exact ⟨m1 ++ m2, by rw [e2, Array.append_assoc]⟩
  have hfree' : ∀ b ∈ frs (X.env :: X.outer), H' b = none := fun b hb => by
    obtain ⟨_, o, e, _⟩ := hFF.mem hb
    exact x.un.free b o e (hfree b hb) (by simp)
  refine wpAny_leaves_onW hfr hf fly fun h' fl up => ?_
  have bigT : ∀ b o, s'.heap.get? b = some o → b ∉ frs (X.env :: X.outer) → (H' b ≠ none ∨ ∃ o', X.s₀.heap.get? b = some o') → B.get? b = some o := fun b o e n hb => by
    refine big b o ?_ n e
    rcases hb with hb | ⟨o', hb⟩
    · exact .inl hb
    · exact .inr (ub.there b o' hb (by simp))
  have slots : ∀ b o, s'.heap.get? b = some o → b ∈ frs (X.env :: X.outer) → ∃ sl, h'.get? b = some { o with slots := sl } := fun b o e hb => by
    obtain ⟨_, o', e', nf⟩ := fly.2.2.1.mem hb
    rw [e] at e'
    cases e'
    exact up b o e nf
  have hfs : ∀ b ∈ frs (X.env :: X.outer), b ∈ X.fs ∨ ∀ o, X.s₀.heap.get? b ≠ some o := fun b hb => by
    rw [frs_cons hf] at hb
    rcases List.mem_cons.mp hb with rfl | hb
    · exact .inr nL
    · exact .inl hb
  refine ⟨x.os.trans I.os, x.bare, ut.fly hfs fl.1 bigT slots hsub, x.hok.fly hfree' fl.1 (fun b o e n hb => bigT b o e n (.inl hb)), ?_, x.free, B, a0, fl, fun b o hb hn e => ?_⟩
  · cases q : X.s₀.heap.get? a with
    | none => rfl
    | some o =>
      obtain ⟨o', e⟩ := ub.there a o q (by simp)
      have := x.new
      rw [e] at this
      cases this
  · have hnL : b ∉ frs (X.env :: X.outer) := fun z => by
      rw [frs_cons hf] at z
      rcases List.mem_cons.mp z with rfl | z
      · rcases hb with hb | ⟨o', hb⟩
        · exact hb (hfree' _ (by rw [frs_cons hf]; exact List.mem_cons_self))
        · exact nL o' hb
      · exact hn z
    have hbs : ∃ ob, s'.heap.get? b = some ob := by
      rcases hb with hb | ⟨o', hb⟩
      · cases q : H' b with
        | none => exact absurd q hb
        | some u => exact (x.hok b u q).there
      · exact ut.there b o' hb (by simp)
    obtain ⟨ob, e1⟩ := hbs
    have e2 := bigT b ob e1 hnL hb
    have e3 := fl.1 b ob e2
    rw [e] at e3
    cases e3
    exact e2
end
end L2
set_option Elab.async false
set_option linter.all false
set_option maxRecDepth 100000
set_option maxHeartbeats 4000000
namespace L2
open PySem PySem.Spec PyProof.Rows
/-! ### the context of an except suite -/
def Cx.hand (X : Cx) (a : Addr) : Cx := { X with A := X.A.mark (some (.ref a)), calm := false, xe := fun _ _ => False }
theorem Cx.Ok.hand {X : Cx} (ok : X.Ok) (a : Addr) : (X.hand a).Ok :=
  ⟨ok.mod, ok.kind, ok.glob, ok.blt, ok.above, ok.inj, ok.has, ok.cab, (fun z => nomatch z), ok.frames, ok.stk, ok.exf, ok.bs, ok.bsz, ok.noex, ok.exfs, ok.funs, ok.frf⟩
section
variable {X : Cx} {pins : List (Addr × Obj)} {σ : St} {H H' : Hp} {s s' : Shared} {a : Addr}
theorem Inv.hand (I : Inv X pins σ H s) (a : Addr) : Inv (X.hand a) pins σ H s := ⟨I.ok.hand a, I.os, I.bare, I.base, I.loc, I.cell, I.free, I.freeC, I.pin, I.hok, I.len⟩
theorem Inv.unhand (ok : X.Ok) (I : Inv (X.hand a) pins σ H s) : Inv X pins σ H s := ⟨ok, I.os, I.bare, I.base, I.loc, I.cell, I.free, I.freeC, I.pin, I.hok, I.len⟩
/-- a thing that stands there is tracked from now on -/
theorem Inv.track {o : HO} (I : Inv X pins σ H s) (hn : H a = none) (hnew : ∀ u, X.s₀.heap.get? a ≠ some u) (hok : ObjOk X.prog X.w (upd H a o) s.heap a o) (neL : a ≠ X.env.locals) (neC : ∀ x c, X.env.cells.lookup x = some c → c ≠ a) (neP : ∀ p ∈ X.pn ++ pins, p.1 ≠ a) : Inv X pins σ (upd H a o) s := by
  have ne : ∀ {b : Addr} {u : HO}, H b = some u → b ≠ a := fun e => ne_of_none e hn
  refine ⟨I.ok, I.os, I.bare, ⟨I.base.keep, I.base.slot, fun b u q n hx => ?_, I.base.there, fun b xs q => ?_, fun b u v q => ?_, fun b ps q => ?_⟩, I.loc, I.cell, ?_, fun x c e => ?_, fun p hp => ?_, fun b u q => ?_, I.len⟩
  · rw [upd_ne (fun z : b = a => hnew u (by rw [← z]; exact q))]
    exact I.base.free b u q n hx
  · have := I.base.tups b xs q
    rw [upd_ne (ne this)]
    exact this
  · have := I.base.frzs b u v q
    rw [upd_ne (ne this)]
    exact this
  · obtain ⟨m, e⟩ := I.base.tbls b ps q
    exact ⟨m, by rw [upd_ne (ne e)]; exact e⟩
  · rw [upd_ne (Ne.symm neL)]
    exact I.free
  · rw [upd_ne (neC x c e)]
    exact I.freeC x c e
  · obtain ⟨e, n, y⟩ := I.pin p hp
    exact ⟨e, by rw [upd_ne (neP p hp)]; exact n, y⟩
  · by_cases hb : b = a
    · subst hb
      rw [upd_same] at q
      cases q
      exact hok
    · rw [upd_ne hb] at q
      exact (I.hok b u q).stay (fun _ _ _ z => z) (fun c z => by rw [upd_ne (ne z)]; exact z) fun c xs z => by rw [upd_ne (ne z)]; exact z
/-- a name of the frame goes -/
theorem Inv.gone {i : Nat} {x : Str} {h' : Heap} {v : Option Value} {m : Str → Option Value} {tk : Nat} (I : Inv X pins σ H s) (hN : X.N.Nodup) (hi : X.N[i]? = some x) (hn : s.heap.Ns X.env.locals m)
    (hl : ∀ (i : Nat) (x : Str) (v : V), X.N[i]? = some x → σ[i]? = some (some v) → Vis X.env.scope x → ∃ u, RelV v u ∧ Look X.env s.heap m x u)
    (hn' : h'.Ns X.env.locals (fun y => if y = x then v else m y)) (hs : Heap.SameBut X.env.locals s.heap h') : Inv X pins (σ.set i none) H { s with heap := h', toks := tk } := by
  have cne := I.cne
  obtain ⟨oL, _, _, hoL, _⟩ := id hn
  refine ⟨I.ok, I.os, I.bare, ⟨fun b o e n hb hx => ?_, fun b o e n hb hx => ?_, I.base.free, fun b o e hx => ?_, I.base.tups, I.base.frzs, I.base.tbls⟩, ⟨_, hn', fun j y v' e1 e2 e3 => ?_⟩, fun y c e => ?_, I.free, I.freeC, fun p hp => ?_, fun b ob e => ?_, by simpa using I.len⟩
  · exact (hs.2 b (Nat.ne_of_lt (Nat.lt_of_lt_of_le (Heap.lt_size e) I.ok.above))).trans (I.base.keep b o e n hb hx)
  · obtain ⟨sl, e1⟩ := I.base.slot b o e n hb hx
    exact ⟨sl, (hs.2 b (Nat.ne_of_lt (Nat.lt_of_lt_of_le (Heap.lt_size e) I.ok.above))).trans e1⟩
  · obtain ⟨o', e1⟩ := I.base.there b o e hx
    exact ⟨o', (hs.2 b (Nat.ne_of_lt (Nat.lt_of_lt_of_le (Heap.lt_size e) I.ok.above))).trans e1⟩
  · by_cases hj : j = i
    · subst hj
      by_cases hlt : j < σ.length
      · rw [List.getElem?_set_self hlt] at e2; cases e2
      · rw [List.getElem?_eq_none (by simp; omega)] at e2; cases e2
    · rw [List.getElem?_set_ne (Ne.symm hj)] at e2
      obtain ⟨u', r', q⟩ := hl j y v' e1 e2 e3
      refine ⟨u', r', ?_⟩
      rcases q with ⟨k, e⟩ | ⟨k, c, e, z⟩
      · refine .inl ⟨k, ?_⟩
        have : y ≠ x := fun e => hj (nodup_ix hN e1 (e ▸ hi))
        simp [this, e]
      · exact .inr ⟨k, c, e, z.sameBut hs (cne y c e)⟩
  · obtain ⟨w', z⟩ := I.cell y c e
    exact ⟨w', z.sameBut hs (cne y c e)⟩
  · obtain ⟨e, n, ne, nf, d⟩ := I.pin p hp
    exact ⟨(hs.2 p.1 ne).trans e, n, ne, nf, d⟩
  · refine (I.hok b ob e).stay (fun c w' hc q => (hs.2 c ?_).trans q) (fun _ q => q) fun _ _ q => q
    rintro rfl
    rcases hc with rfl | hc
    · rw [I.free] at e; cases e
    · rw [I.free] at hc; cases hc
/-! ### raise -/
def tRaise (EX : Hp → Prop) (t : TA) : TS := fun _ σ H => t σ H fun vs H1 => vs.length ≤ 10 ∧ EX H1
theorem ps_raise {x : Str} {C : Addr} {e : Expr} {es : List Expr} {t : TA} {np cpos pos : Pos} {EX : Hp → Prop} (hc : X.calm = true) (hg : Gl X x) (hm : X.mg x = some (.ref C)) (he : ExcC X.K C) (ha : PA X (e :: es) t)
    (hx : ∀ pins σ H s h' a vs, Inv X pins σ H s → Heap.MadeExcOf s.heap h' a (.ref C) vs → EX H → X.xe (.ref a) { s with heap := h' })
    (hd : (x == ("__debug__" : Str)) = false := by decide) (hst : starEach (e :: es) X.env = (false, eval e X.env) :: starEach es X.env := by rfl) (hpl : (backTo cpos (starEach es X.env)).any (·.1) = false := by rfl) :
    PS X (.Raise (some (.Call (.Name x np) (e :: es) [] cpos)) none pos) (tRaise EX t) := by
  intro pins s σ H D I h
  obtain ⟨bm, N, nm, qn, bs, hdct, sn, sub, ab, col, dd, k0, k1, k2, k3, k5, mN, oC, hN, hni, TL, _⟩ := exc_obj (I.ok.mod.kin) he
  refine wpAny_Raise_call_subT (C := C) (nm := nm) (q := qn) (N := N) (bs := bs) (bm := bm) (hdct := hdct) (sn := sn) (sub := sub) (ab := ab) (col := col) (dd := dd) (k0 := k0) (k1 := k1) (k2 := k2) (k3 := k3) (k5 := k5)
    PySem.F.excBase_ValueError (mN := mN) (TL.hasType (by decide)) (I.ok.hd hc) (by rw [hst]; show (false || (backTo cpos (starEach es X.env)).any (·.1)) = false; rw [hpl]; rfl) hni (ld_glob I hg hm ⟨rfl, ?_⟩ hd)
  have hA := ha cpos pins s σ H _ I h
  rw [hst] at hA ⊢
  refine Calls.evalArgs_plain (thn hA fun us s1 ⟨vs, H1, I1, r, z, q⟩ => ⟨rfl, ?_, I1.bk _ _ oC, hN.keeps I1.bk, TL.keeps I1.bk, fun h' a hmk => hx pins σ H1 s1 h' a us I1 hmk q⟩)
  rw [← r.length]
  exact fits2 (by omega)
end
section
variable {P : Program} {w : World} {K : PySem.W.Frag} {mg : Str → Option Value} {base : Heap} {N : List Str} {qual : Str} {scope : Scope} {f : Addr} {cd : Value} {A : Around} {outer : List Env} {s₀ : Shared} {H₀ : Hp} {E : XK}
/-- a def's own refusal -/
theorem xe_raise {C : Addr} : ∀ pins σ H s h' a vs, Inv (cxOf (CXe P w) P w K mg base N qual scope f cd A outer s₀ H₀ E) pins σ H s → Heap.MadeExcOf s.heap h' a (.ref C) vs → E (.ref C) none H →
    (cxOf (CXe P w) P w K mg base N qual scope f cd A outer s₀ H₀ E).xe (.ref a) { s with heap := h' } := fun pins σ H s h' a vs I hmk q =>
  wpAny_mono (Inv.raise (M := model P w) (E' := fun _ _ => False) I rfl rfl rfl hmk) (fun _ s'' x => ⟨a, .ref C, H, rfl, x, q⟩) fun _ _ z => z.elim
/-- a callee's refusal goes on -/
theorem pass_on : Passes (CXe P w) (cxOf (CXe P w) P w K mg base N qual scope f cd A outer s₀ H₀ E) E := fun pins σ H s e s' I h => by
  obtain ⟨a, cls, H', rfl, x, q⟩ := h
  exact wpAny_mono (Inv.pass (M := model P w) (E' := fun _ _ => False) I rfl rfl rfl x) (fun _ s'' y => ⟨a, cls, H', rfl, y, q⟩) fun _ _ z => z.elim
/-- a def that may refuse -/
theorem Fun.okE {x qual : Str} {st : Stmt} {f : Addr} {fd : FuncData} {N ps : List Str} {k : Nat} {sp : Sp} (F : Fun K x qual st f fd) (S : FnScope N ps (defScope st)) (len : ∀ vs H Q E, sp vs H Q E → vs.length = ps.length)
    (hbody : ∀ (cdv : Value) (A : Around) (outer : List Env) (s : Shared) (H : Hp) (vs : List V) (Q : VK) (E : XK), Room k (A.deeper (envOfC qual (defScope st) s.heap.objs.size f cdv)) → sp vs H Q E →
      ∃ t, QSs (cxOf (CXe P w) P w K mg base N qual (defScope st) f cdv A outer s H E) (defBody st) t ∧ t { nx := fun _ H' => Q .non H', rt := Q } (start N vs) H) : FnOk P w K mg base (CXe P w) (k + 1) f fd ps sp := by
  obtain ⟨oc, od, kV, doc, pm, an, cdv, ct, osl, rfl, lk, hcd⟩ := F.ex
  refine fn_of lk hcd S len fun A outer s H vs Q E hr hsp => ?_
  obtain ⟨t, h, q⟩ := hbody cdv A outer s H vs Q E hr hsp
  exact ⟨t, h.h, q⟩
end
/-! ### try: f(..) except C as n: suite -/
/-- an exception of the class at C, as it is held -/
def excO (a C : Addr) : HO := .ext fun h => ∃ o, h.get? a = some o ∧ o.cls = .ref C
def tTry (K : PySem.W.Frag) (Dc : Addr) (i : Nat) (sp : Sp) (t : TA) (ts : TS) : TS := fun D σ H => t σ H fun vs H1 => sp vs H1 (fun _ H2 => D.nx σ H2) fun cls _ H2 => ∃ C, cls = .ref C ∧ ExcC K C ∧ PySem.W.mroIn K C (.ref Dc) = some true ∧
  ∀ a, H2 a = none → ts { nx := fun σ' H' => D.nx (σ'.set i none) H', rt := fun _ _ => False, bk := fun _ _ => False, ct := fun _ _ => False } (σ.set i (some (.ref a))) (upd H2 a (excO a C))
section
variable {X : Cx} {k : Nat} {f Dc : Addr} {fd : FuncData} {ps : List Str} {sp : Sp} {x dn n : Str} {i : Nat} {p cpos epos np hpos pos : Pos} {e : Expr} {es : List Expr} {t : TA} {ts : TS} {b0 : Stmt} {suite : List Stmt}
theorem ps_try (F : FnOk X.prog X.w X.K X.mg X.base (CXe X.prog X.w) k f fd ps sp) (hr : Room k X.A) (hg : Gl X x) (hm : X.mg x = some (.ref f)) (hk : PySem.W.keepIn X.K (.ref f) = true) (hb : Binds X.K fd ps [])
    (ha : PA X.nox (e :: es) t) (hgD : Gl X dn) (hmD : X.mg dn = some (.ref Dc)) (hD : ExcC X.K Dc) (hN : X.N.Nodup) (hi : X.N[i]? = some n) (hn : X.env.scope.names.lookup n = some .local) (hstk : X.stack = X.env :: X.outer) (hfr : X.env.frame = some X.env.locals) (hex : X.ex = [])
    (hs : ∀ a, PSs (X.hand a) (b0 :: suite) ts)
    (hdb : (x == ("__debug__" : Str)) = false := by decide) (hdd : (dn == ("__debug__" : Str)) = false := by decide) (he : starEach (e :: es) X.env = (false, eval e X.env) :: starEach es X.env := by rfl) (hpl : (backTo cpos (starEach es X.env)).any (·.1) = false := by rfl)
    (hsw : swapsWith (.Call (.Name x p) (e :: es) [] cpos) none epos.line X.env = pure false := by rfl) :
    PS X (.Try [.Expr (.Call (.Name x p) (e :: es) [] cpos) epos] [.ExceptHandler (some (.Name dn np)) (some n) (b0 :: suite) hpos] [] [] pos) (tTry X.K Dc i sp t ts) := by
  intro pins s σ H D I h
  refine wpAny_Try_except (wpAny_execs_cons (wpAny_Expr_any (wpAny_Call_Name_kw (ld_glob I hg hm ?_ hdb)) I.quiet hsw))
  refine PySem.W.callWith_K (h₀ := X.base) I.ok.mod.kin hk (wpAny_mono (ha cpos pins s σ H _ (I.wish _) h) (fun us s1 ⟨vs, H1, I1n, r, q⟩ => ⟨I1n.kIn, ?_⟩) fun _ _ z => z.elim) he hpl
  have I1 : Inv X pins σ H1 s1 := I1n.unwish
  have hl : (us ++ []).length = ps.length := by rw [List.append_nil, ← r.length]; exact F.len _ _ _ _ q
  have hbb := hb s1 us I1.kIn hl
  rw [List.append_nil] at hbb
  refine wpAny_call (codeAny_mono (F.run X.A X.stack s1 H1 ⟨us, []⟩ us vs _ _ hr I1.env0 hbb r q) fun res s' hq => ?_)
  cases res with
  | ok fl =>
    cases fl with
    | ret u =>
      obtain ⟨v, H2, I2, _, q2⟩ := I1.after hq
      exact wpAny_execs_nil (wpAny_execs_nil ⟨σ, H2, I2, q2⟩)
    | next => exact False.elim hq
    | brk => exact False.elim hq
    | cont => exact False.elim hq
  | error ev =>
    obtain ⟨a, cls, H2, rfl, x, C, rfl, hC, hmro, q2⟩ := hq
    obtain ⟨B, a0, fly, big⟩ := x.fly
    have hfrm : X.A.frames = some (X.env :: X.outer) := by rw [← hstk]; exact I.ok.frames
    rw [hstk] at fly
    -- all states on the way are like s' but for frames' slots and the exception's own records
    have keep : ∀ h6 : Heap, B.StaysIn h6 → s'.heap.UpToSlots h6 → ∀ tk : Nat, Inv X pins σ H2 { s' with heap := h6, toks := tk } := fun h6 st up tk => by
      have slots : ∀ b o, s'.heap.get? b = some o → b ∈ frs X.stack → ∃ sl, h6.get? b = some { o with slots := sl } := fun b o e hb => by
        rw [hstk] at hb
        obtain ⟨_, o', e', nf⟩ := fly.2.2.1.mem hb
        rw [e] at e'
        cases e'
        exact up b o e nf
      have hfree' : ∀ b ∈ frs X.stack, H2 b = none := fun b hb => by
        obtain ⟨_, o, e, _⟩ := I1.stack.mem hb
        exact x.un.free b o e (I1.stkFree b hb) (by simp)
      refine I1.call' (ch := []) x.os (x.un.fly (fun b hb => .inl hb) st (fun b o e n hb => big b o hb n e) slots fun b hb => hb) (x.hok.fly hfree' st (fun b o e n hb => big b o (.inl hb) n e)) x.bare (fun b z => absurd z (by simp))
    refine wpAny_looks_onW hfrm hfr fly fun h4 held4 sm4 => wpAny_landsW held4 fun h5 fl5 sm5 => ?_
    have I5 := keep h5 fl5.1 (sm4.trans sm5) s'.toks
    obtain ⟨oe, hoe, hoc⟩ := fl5.there
    refine wpAny_handleBy_cons (codeAny_handlers_test (ld_glob (I5.hand a) hgD hmD (excMatches_own (K := X.K) I5.kIn hC hD hoe hoc hmro ?_) hdd)) (by intro z; cases z)
    refine codeAny_handlers_suite_as (lands_againW fl5 fun h6 fl6 sm6 => ?_)
    have I6 := keep h6 fl6.1 ((sm4.trans sm5).trans sm6) s'.toks
    obtain ⟨oe6, hoe6, hoc6⟩ := fl6.there
    have hnew1 : s1.heap.get? a = none := x.new
    have I7 : Inv X pins σ (upd H2 a (excO a C)) { s' with heap := h6 } := by
      refine I6.track x.free (fun u z => ?_) ⟨⟨oe6, hoe6, hoc6⟩, ⟨oe6, hoe6⟩, fun h1 h2 ⟨o, e1, e2⟩ st => ⟨o, st o e1, e2⟩⟩ (fun z => ?_) (fun y c e z => ?_) (fun p hp z => ?_)
      · obtain ⟨o', e1⟩ := I1.base.there a u z (by rw [hex]; simp)
        rw [hnew1] at e1
        cases e1
      · obtain ⟨m, hns, _⟩ := I1.loc
        obtain ⟨oL, _, _, hoL, _⟩ := hns
        rw [← z, hnew1] at hoL
        cases hoL
      · obtain ⟨v, oc, hoc', _⟩ := I1.cell y c e
        rw [z, hnew1] at hoc'
        cases hoc'
      · obtain ⟨e1, _⟩ := I1.pin p hp
        rw [z, hnew1] at e1
        cases e1
    refine store_ok (X := X.hand a) (v := .ref a) (I7.hand a) hN hi (.inl hn) rfl (fun s7 I8 => ?_) (.inr hn)
    refine wpAny_mono (hs a pins s7 _ _ _ I8 (q2 a x.free)) (fun fw s8 hfw => ?_) fun _ _ z => z.elim
    cases fw with
    | next =>
      obtain ⟨σ', H9, I9, q9⟩ := hfw
      have I9' := I9.unhand I.ok
      obtain ⟨m, hns, hloc⟩ := I9'.loc
      refine wpAny_nameGoes_keeps hn hns (by rw [I.ok.kind]; rfl) fun h10 v hn10 hs10 => ?_
      exact ⟨σ'.set i none, H9, I9'.gone hN hi hns hloc hn10 hs10, q9⟩
    | ret u =>
      obtain ⟨_, _, _, _, _, z⟩ := hfw
      exact z.elim
    | brk =>
      obtain ⟨_, _, _, z⟩ := hfw
      exact z.elim
    | cont =>
      obtain ⟨_, _, _, z⟩ := hfw
      exact z.elim
end
end L2
set_option Elab.async false
set_option linter.all false
set_option maxRecDepth 100000
set_option maxHeartbeats 4000000
namespace L2
open PySem PySem.Spec PySem.Calls PyProof.Rows PySem.W Builtin Builtin.ObjectAttr Builtin.Getset_descriptor
/-- what the text says of a class of refusals -/
structure XCls (K : Frag) (C : Addr) : Prop where
  ex : ExcC K C
  ga : findIn K (.ref C) "__getattribute__" = some (some (.builtin "BaseException.__getattribute__"))
  gt : findIn K (.ref C) "__getattr__" = some none
  ca : findIn K (.ref C) "__class__" = some (some (.builtin "object.__class__"))
  sp : specialIn K (.builtin "object.__class__") "__get__" = some (some (.builtin "getset_descriptor.__get__"))
  tk : takesIn K (.builtin "object.__class__") = some true
  mo : mroIn K C (.type "object") = some true
  mb : mroIn K C (.type "BaseException") = some true
def ExcAt (a C : Addr) (h : Heap) : Prop := ∃ o, h.get? a = some o ∧ o.cls = .ref C
section
variable {prog : Program} {w : World} {A : Around} {E : Value → Shared → Prop} {K : Frag} {a C : Addr} {s : Shared}
theorem excAt_ty {M : Model} {h : Heap} (p : ExcAt a C h) : Looks M h (typeOf (.ref a)) (.ref C) := by
  obtain ⟨o, h1, h2⟩ := p
  exact h2 ▸ (Looks.ld h1).andThen .now
theorem exc_class_get {R : Result → Shared → Prop} {tp : Value} (X : K.In s.heap) (I : ExcAt a C s.heap) (hm : mroIn K C (.type "object") = some true)
    (h : R (.ok (.ret (.ref C))) s) : codeAny (model prog w) A (.call (.builtin "getset_descriptor.__get__") ⟨[.builtin "object.__class__", .ref a, tp], []⟩) R s := by
  obtain ⟨hh, g, dr, t, os⟩ := s
  have L0 := excAt_ty (M := model prog w) I
  have L1 := looks_mroIn (M := model prog w) X hm
  refine codeAny_call_builtin KF.slot_gs.plain KF.entry_gs (KF.slot_gs.check _ _ _ _ _ _ _ _ KF.type_class (KF.args_gs _ _ _) ?_)
  unfold Builtin.«getset_descriptor.__get__» descrGet
  rw [dga_obj]
  refine wpAny_bind (wpAny_pure ?_)
  unfold descrGetter descrCheckInstance descrNameAndClass isInstance
  simp only [KF.owner_class]
  repeat lk
  refine ⟨Code.quiet_builtin _ (by decide +kernel), codeAny_builtin KF.entry_class ?_⟩
  unfold Builtin.«object.__class__» shownTypeOf
  repeat lk
  exact h
theorem exc_check_ga {M : Model} {nameV : Value} {Q : Unit → Shared → Prop} (X : K.In s.heap) (I : ExcAt a C s.heap) (hm : mroIn K C (.type "BaseException") = some true) (hq : Q () s) : wpAny M A (checkBuiltinCall "BaseException.__getattribute__" ⟨[.ref a, nameV], []⟩) Q E s := by
  obtain ⟨hh, g, dr, t, os⟩ := s
  have hk : builtinKind "BaseException.__getattribute__" = some .slot := by decide +kernel
  have hsplit : splitId "BaseException.__getattribute__" = some ("BaseException", "__getattribute__") := by decide +kernel
  have ha := F.args_bexc_ga (.ref a) nameV
  have L0 := excAt_ty (M := M) I
  have L1 := looks_mroIn (M := M) X hm
  simp only [checkBuiltinCall, hk, hsplit]
  refine wpAny_bind ?_
  unfold isInstance
  refine wpAny_bind (L0.at (L1.at ?_))
  repeat (first | assumption | wp_step)
theorem exc_entry {tk : Tok} {Q : Fin → Shared → Prop} (X : K.In s.heap) (I : ExcAt a C s.heap) (c : XCls K C) (hq : Q (.done (.ret (.ref C))) s) : wpAny (model prog w) A (Builtin.«object.__getattribute__» ⟨[.ref a, .str "__class__" tk], []⟩) Q E s := by
  obtain ⟨hh, g, dr, t, os⟩ := s
  have L0 := excAt_ty (M := model prog w) I
  have L1 := looks_findIn (M := model prog w) X c.ca
  have f5 := F.typeOf_object_class
  have f6 := F.slot_gs_get.lookup
  have f7 := F.slot_gs_set.lookup
  have hT5 : (⟨hh, g, dr, t, os⟩ : Shared).TypeIs (.builtin "object.__class__") "getset_descriptor" := F.typeOf_object_class
  repeat (any_goals (first | assumption | with_reducible refine L0.at ?_ | with_reducible refine L1.at ?_ | wp_step))
  refine exc_class_get X I c.mo ?_
  repeat (any_goals (first | assumption | wp_step))
theorem exc_ca {Q : Option Value → Shared → Prop} (X : K.In s.heap) (I : ExcAt a C s.heap) (c : XCls K C) (hq : Q (some (.ref C)) { s with toks := s.toks + 1 }) : wpAny (model prog w) A (getAttr? (.ref a) "__class__") Q E s := by
  obtain ⟨hh, g, dr, t, os⟩ := s
  have L0 := excAt_ty (M := model prog w) I
  have L1 := looks_findIn (M := model prog w) X c.ga
  have L2' := looks_findIn (M := model prog w) X c.gt
  have f3 := PySem.F.excAttr_ValueError.ga.bind (.ref a)
  have hx2 : (Value.builtin "BaseException.__getattribute__" == Value.builtin "object.__getattribute__") = false := by decide +kernel
  have hx1 : (onTheHeap (Value.ref C) && Value.builtin "BaseException.__getattribute__" == Value.builtin "object.__getattribute__") = false := by rw [hx2]; rfl
  unfold getAttr? getAttrBy?
  repeat (any_goals (first | assumption | with_reducible refine L0.at ?_ | with_reducible refine L1.at ?_ | with_reducible refine L2'.at ?_ | wp_step))
  refine codeAny_call_builtin PySem.F.excAttr_ValueError.ga.plain F.entry_bexc_ga (exc_check_ga X I c.mb (exc_entry X I c ?_))
  exact handed_on rfl (wpAny_pure hq)
theorem kitx_exc (c : XCls K C) : KitX K (.ref a) (.ref C) (ExcAt a C) where
  ty := fun _ _ _ I => excAt_ty I
  it := fun _ h X _ => by
    obtain ⟨bm, N, nm, qn, bs, hdct, sn, sub, ab, col, dd, k0, k1, k2, k3, k5, mN, oC, _⟩ := exc_obj X c.ex
    intro A' Q' E' s' k q
    unfold isType loadHead
    exact wpAny_bind (wpAny_loadPart (k _ _ oC) (wpAny_pure q))
  ne := fun h tp dd its n sl X htp => by
    obtain ⟨bm, N, nm, qn, bs, hdct, sn, sub, ab, col, dd', k0, k1, k2, k3, k5, mN, oC, _⟩ := exc_obj X c.ex
    refine Bool.eq_false_iff.mpr fun q => ?_
    have e : C = tp := Value.ref.inj (beq_iff_eq.mp q)
    subst e
    have z := congrArg (fun o : Option Obj => o.map (·.cls)) (oC.symm.trans htp)
    simp [excClassObj] at z
  ca := fun X I k => exc_ca X I c k
end
section
variable {X : Cx}
theorem vals_refs : ∀ {ds : List Addr} {us : List Value}, Vals (ds.map V.ref) us → us = ds.map Value.ref
  | [], _, r => by cases r; rfl
  | d :: ds, _, r => by
    rw [List.map_cons] at r
    cases r with
    | cons r1 r2 =>
      cases (show _ = Value.ref d from r1)
      rw [vals_refs r2]
      rfl
/-- isinstance(error, C), isinstance(error, T), isinstance(error, (C, ..)) -/
theorem call_isx : CallR X (.builtin "isinstance") (fun xs H Q => ∃ (a C : Addr) (v : V) (b : Bool), xs = [.ref a, v] ∧ H a = some (excO a C) ∧ XCls X.K C ∧
    ((∃ D, v = .ref D ∧ kitOne X.K (.ref C) (.ref D) = some b) ∨ (∃ T, v = .ty T ∧ kitOne X.K (.ref C) (.type T) = some b) ∨ (∃ (p : Addr) (ds : List Addr), v = .ref p ∧ H p = some (.tup (ds.map V.ref)) ∧ kitAny X.K (.ref C) (ds.map Value.ref) = some b)) ∧ Q (.bl b) H) := by
  intro pins s σ H xs us Q I r h
  obtain ⟨a, C, v, b, rfl, ha, c, alt, q⟩ := h
  obtain ⟨u, u', rfl, ru, rv⟩ := vals2 r
  cases ru
  have hat : ExcAt a C s.heap := (I.hok a _ ha).1
  have fin : ∀ tk, EP X pins σ Q (.bool b) { s with toks := tk } := fun tk => ⟨.bl b, H, I.tok tk, rfl, q⟩
  rcases alt with ⟨D, rfl, e⟩ | ⟨T, rfl, e⟩ | ⟨p, ds, rfl, hp, e⟩
  · cases rv
    exact kia_one (kitx_exc c) I.kIn hat e (fun z => nomatch z) fin
  · cases rv
    exact kia_one (kitx_exc c) I.kIn hat e (fun z => nomatch z) fin
  · cases rv
    obtain ⟨its, r1, ⟨⟨cls, dd, data, sl⟩, ho, hc, n, hd⟩, _⟩ := I.tuple (.of hp)
    simp only at hc hd
    subst hc hd
    rw [vals_refs r1] at ho
    exact kia_tup (kitx_exc c) I.kIn hat ho e (fun z => nomatch z) fin
end
end L2
set_option Elab.async false
set_option linter.all false
set_option maxRecDepth 100000
set_option maxHeartbeats 4000000
namespace L2
open PySem PySem.Spec PyProof.Rows
/-! ### f-strings -/
mutual
/-- what a value shows, read through the abstract heap -/
inductive Shw (K : PySem.W.Frag) (H : Hp) : V → PyData → Prop
  | non : Shw K H .non .none
  | bl (b : Bool) : Shw K H (.bl b) (.bool b)
  | int (i : Int) : Shw K H (.int i) (.int i)
  | str (x : Str) : Shw K H (.str x) (.str x)
  | lst {a : Addr} {vs : List V} {ds : List PyData} : SqL K H a vs → ShwA K H vs ds → Shw K H (.ref a) (.list ds)
  | tup {a : Addr} {vs : List V} {ds : List PyData} : SqT K H a vs → ShwA K H vs ds → Shw K H (.ref a) (.tuple ds)
inductive ShwA (K : PySem.W.Frag) (H : Hp) : List V → List PyData → Prop
  | nil : ShwA K H [] []
  | cons {v : V} {d : PyData} {vs : List V} {ds : List PyData} : Shw K H v d → ShwA K H vs ds → ShwA K H (v :: vs) (d :: ds)
end
section
variable {X : Cx} {pins : List (Addr × Obj)} {σ : St} {H : Hp} {s : Shared}
mutual
theorem Inv.reads (I : Inv X pins σ H s) : ∀ {v : V} {d : PyData} {u : Value}, Shw X.K H v d → RelV v u → ∃ as, Reads s.heap u d as
  | _, _, _, .non, r => by cases r; exact ⟨_, .none⟩
  | _, _, _, .bl b, r => by cases r; exact ⟨_, .bool b⟩
  | _, _, _, .int i, r => by obtain ⟨t, rfl⟩ := r; exact ⟨_, .int i t⟩
  | _, _, _, .str x, r => by obtain ⟨t, rfl⟩ := r; exact ⟨_, .str x t⟩
  | _, _, _, .lst h1 h2, r => by
    cases r
    obtain ⟨its, rs, ⟨o, n, e, c, _, dt⟩, _⟩ := I.list h1
    obtain ⟨as, ra⟩ := I.readsA h2 rs
    exact ⟨_, .list e c dt (by simpa using ra)⟩
  | _, _, _, .tup h1 h2, r => by
    cases r
    obtain ⟨its, rs, ⟨o, e, c, n, dt⟩, _⟩ := I.tuple h1
    obtain ⟨as, ra⟩ := I.readsA h2 rs
    exact ⟨_, .tuple e c dt (by simpa using ra)⟩
theorem Inv.readsA (I : Inv X pins σ H s) : ∀ {vs : List V} {ds : List PyData} {us : List Value}, ShwA X.K H vs ds → Vals vs us → ∃ as, ReadsAll s.heap us ds as
  | _, _, _, .nil, r => by cases r; exact ⟨_, .nil⟩
  | _, _, _, .cons h1 h2, r => by
    cases r with
    | cons r1 r2 =>
      obtain ⟨as, ra⟩ := I.reads h1 r1
      obtain ⟨bs, rb⟩ := I.readsA h2 r2
      exact ⟨_, .cons ra rb⟩
end
end
section
variable {X : Cx} {pins : List (Addr × Obj)} {σ : St} {H : Hp} {s : Shared} {te : TE} {e : Expr} {pos : Pos} {k : Nat}
/-- {x} of a text or a number -/
def tFmt (te : TE) : TE := fun σ H Q => te σ H fun v H1 => (∃ x, v = .str x ∧ x.length ≤ sizeLine ∧ Q (.str x) H1) ∨ (∃ i : Int, v = .int i ∧ i.natAbs.log2 < 1920 ∧ Q (.str (toString i)) H1)
theorem pe_fmt (he : PE X e te) : PE X (.FormattedValue e (-1) none pos) (tFmt te) := fun pins s σ H Q I h =>
  wpAny_FormattedValue_plain (thn (he pins s σ H _ I h) fun u s1 ⟨v, H1, I1, r, q⟩ => by
    rcases q with ⟨x, rfl, hx, q⟩ | ⟨i, rfl, hi, q⟩
    · obtain ⟨t, rfl⟩ := r
      exact wpAny_formatField_str ⟨.str x, H1, I1, ⟨_, rfl⟩, q⟩ ⟨.str x, H1, I1.tok _, ⟨_, rfl⟩, q⟩ hx
    · obtain ⟨t, rfl⟩ := r
      exact wpAny_formatField_int hi ⟨.str _, H1, I1.tok _, ⟨_, rfl⟩, q⟩)
/-- {x!r} -/
def tRep (K : PySem.W.Frag) (te : TE) : TE := fun σ H Q => te σ H fun v H1 => ∃ d : PyData, Shw K H1 v d ∧ d.showable = true ∧ d.hasDict = false ∧ d.depth ≤ 64 ∧ d.shown.length ≤ sizeLine ∧ Q (.str d.shown) H1
theorem pe_rep (hr : Room k X.A) (he : PE X e te) : PE X (.FormattedValue e 114 none pos) (tRep X.K te) := fun pins s σ H Q I h =>
  wpAny_FormattedValue_repr (thn (he pins s σ H _ I h) fun u s1 ⟨v, H1, I1, r, d, hw, h1, h2, h3, h4, q⟩ => by
    have fin : ∀ (h' : Heap) (t tk : Nat), (∀ b o, s1.heap.get? b = some o → h'.get? b = some o) → wpAny (model X.prog X.w) X.A (formatField (.str d.shown t) Str.empty) (EP X pins σ Q) X.xe { s1 with heap := h', toks := tk } := fun h' t tk kp =>
      have I2 : ∀ tk, Inv X pins σ H1 { s1 with heap := h', toks := tk } := fun tk => I1.un (t' := tk) (Un.kept fun b o e => kp b o e) (fun a o e => (I1.hok a o e).stay (fun b u _ q => kp b u q) (fun _ q => q) fun _ _ q => q)
      wpAny_formatField_str ⟨.str _, H1, I2 _, ⟨_, rfl⟩, q⟩ ⟨.str _, H1, I2 _, ⟨_, rfl⟩, q⟩ h4
    have hu := hr.units
    cases hw with
    | non => cases r; exact pyReprObj_none (fin _ _ _ fun _ _ e => e)
    | bl b => cases r; exact pyReprObj_bool (fin _ _ _ fun _ _ e => e)
    | int i => obtain ⟨t, rfl⟩ := r; exact pyReprObj_int (by simpa [PyData.showable] using h1) (fin _ _ _ fun _ _ e => e)
    | str x => obtain ⟨t, rfl⟩ := r; exact pyReprObj_str (fin _ _ _ fun _ _ e => e) h4
    | lst a1 a2 =>
      obtain ⟨as, rd⟩ := I1.reads (.lst a1 a2) r
      cases r
      exact pyReprObj_of_reads rd h1 (PyData.noDict_hsm h2) hr.gd (by omega) (fun _ _ e => e) (fun h' u tk kp => fin h' u tk kp) h4
    | tup a1 a2 =>
      obtain ⟨as, rd⟩ := I1.reads (.tup a1 a2) r
      cases r
      exact pyReprObj_of_reads rd h1 (PyData.noDict_hsm h2) hr.gd (by omega) (fun _ _ e => e) (fun h' u tk kp => fin h' u tk kp) h4)
def tJoins : List TE → Str → TE
  | [], acc => fun _ H Q => Q (.str acc) H
  | t :: ts, acc => fun σ H Q => t σ H fun v H1 => ∃ y, v = .str y ∧ (acc ++ y).length ≤ sizeLine ∧ tJoins ts (acc ++ y) σ H1 Q
structure QJ (X : Cx) (es : List Expr) (ts : List TE) : Prop where
  h : ∀ (acc : Str) (pins : List (Addr × Obj)) (s : Shared) (σ : St) (H : Hp) (Q : VK), acc.length ≤ sizeLine → Inv X pins σ H s → tJoins ts acc σ H Q → Joins (model X.prog X.w) X.A X.xe (evalEach es X.env) acc (fun out s1 => out.length ≤ sizeLine ∧ EP X pins σ Q (.str out s1.toks) { s1 with toks := s1.toks + 1 }) s
theorem qj_nil : QJ X [] [] := ⟨fun acc pins s σ H Q ha I h => ⟨ha, .str acc, H, I.tok _, ⟨_, rfl⟩, h⟩⟩
theorem qj_cons {es : List Expr} {ts : List TE} (he : QE X e te) (hr : QJ X es ts) : QJ X (e :: es) (te :: ts) := ⟨fun acc pins s σ H Q ha I h => by
  show wpAny _ _ (eval e X.env) _ _ _
  refine thn (he.h pins s σ H _ I h) fun u s1 ⟨v, H1, I1, r, y, ev, hy, q⟩ => ?_
  subst ev
  obtain ⟨t, rfl⟩ := r
  exact ⟨y, t, rfl, hy, hr.h _ _ _ _ _ _ hy I1 q⟩⟩
theorem qe_join {e2 : Expr} {es : List Expr} {ts : List TE} (h : QJ X (e :: e2 :: es) ts) : QE X (.JoinedStr (e :: e2 :: es) pos) (tJoins ts Str.empty) := ⟨fun pins s σ H Q I q => wpAny_JoinedStr (h.h _ _ _ _ _ _ (by decide) I q)⟩
theorem qe_fmt (he : QE X e te) : QE X (.FormattedValue e (-1) none pos) (tFmt te) := ⟨pe_fmt he.h⟩
theorem qe_rep (hr : Room k X.A) (he : QE X e te) : QE X (.FormattedValue e 114 none pos) (tRep X.K te) := ⟨pe_rep hr he.h⟩
end
end L2
set_option Elab.async false
set_option linter.all false
set_option maxRecDepth 100000
namespace L2
open PySem PySem.Spec PyProof.Rows
section
variable {X : Cx}
theorem qs_raise {x : Str} {C : Addr} {e : Expr} {es : List Expr} {t : TA} {np cpos pos : Pos} {EX : Hp → Prop} (hc : X.calm = true) (hg : Gl X x) (hm : X.mg x = some (.ref C)) (he : ExcC X.K C) (ha : QA X (e :: es) t)
    (hx : ∀ pins σ H s h' a vs, Inv X pins σ H s → Heap.MadeExcOf s.heap h' a (.ref C) vs → EX H → X.xe (.ref a) { s with heap := h' })
    (hd : (x == ("__debug__" : Str)) = false := by decide) (hst : starEach (e :: es) X.env = (false, eval e X.env) :: starEach es X.env := by rfl) (hpl : (backTo cpos (starEach es X.env)).any (·.1) = false := by rfl) :
    QS X (.Raise (some (.Call (.Name x np) (e :: es) [] cpos)) none pos) (tRaise EX t) := ⟨ps_raise hc hg hm he ha.h hx hd hst hpl⟩
variable {k : Nat} {f Dc : Addr} {fd : FuncData} {ps : List Str} {sp : Sp} {x dn n : Str} {i : Nat} {p cpos epos np hpos pos : Pos} {e : Expr} {es : List Expr} {t : TA} {ts : TS} {b0 : Stmt} {suite : List Stmt}
theorem qs_try (F : FnOk X.prog X.w X.K X.mg X.base (CXe X.prog X.w) k f fd ps sp) (hr : Room k X.A) (hg : Gl X x) (hm : X.mg x = some (.ref f)) (hk : PySem.W.keepIn X.K (.ref f) = true) (hb : Binds X.K fd ps [])
    (ha : QA X.nox (e :: es) t) (hgD : Gl X dn) (hmD : X.mg dn = some (.ref Dc)) (hD : ExcC X.K Dc) (hN : X.N.Nodup) (hi : X.N[i]? = some n) (hn : X.env.scope.names.lookup n = some .local) (hstk : X.stack = X.env :: X.outer) (hfr : X.env.frame = some X.env.locals) (hex : X.ex = [])
    (hs : ∀ a, QSs (X.hand a) (b0 :: suite) ts)
    (hdb : (x == ("__debug__" : Str)) = false := by decide) (hdd : (dn == ("__debug__" : Str)) = false := by decide) (he : starEach (e :: es) X.env = (false, eval e X.env) :: starEach es X.env := by rfl) (hpl : (backTo cpos (starEach es X.env)).any (·.1) = false := by rfl)
    (hsw : swapsWith (.Call (.Name x p) (e :: es) [] cpos) none epos.line X.env = pure false := by rfl) :
    QS X (.Try [.Expr (.Call (.Name x p) (e :: es) [] cpos) epos] [.ExceptHandler (some (.Name dn np)) (some n) (b0 :: suite) hpos] [] [] pos) (tTry X.K Dc i sp t ts) :=
  ⟨ps_try F hr hg hm hk hb ha.h hgD hmD hD hN hi hn hstk hfr hex (fun a => (hs a).h) hdb hdd he hpl hsw⟩
end
end L2
set_option Elab.async false
set_option linter.all false
set_option maxRecDepth 100000
set_option maxHeartbeats 4000000
namespace L2
open PySem PySem.Spec PyProof.Rows

/-! ### lists of pairs as tables -/
section
variable {κ : Type} [DecidableEq κ]
def valV (kvs : List (κ × V)) (k : κ) : Option V := (kvs.find? fun kv => decide (kv.1 = k)).map (·.2)
/-- in its place, or at the end -/
def putK (kvs : List (κ × V)) (k : κ) (v : V) : List (κ × V) :=
  if (kvs.any fun kv => decide (kv.1 = k)) = true then kvs.map (fun kv => if kv.1 = k then (kv.1, v) else kv) else kvs ++ [(k, v)]
def dropK (kvs : List (κ × V)) (k : κ) : List (κ × V) := kvs.filter fun kv => decide (kv.1 ≠ k)

theorem valV_nil {k : κ} : valV ([] : List (κ × V)) k = none := rfl
theorem valV_pos {p : κ × V} {r : List (κ × V)} {k : κ} (e : p.1 = k) : valV (p :: r) k = some p.2 := by simp [valV, List.find?_cons, e]
theorem valV_neg {p : κ × V} {r : List (κ × V)} {k : κ} (e : ¬ p.1 = k) : valV (p :: r) k = valV r k := by simp [valV, List.find?_cons, e]
theorem valV_any (k : κ) : ∀ kvs : List (κ × V), (kvs.any fun kv => decide (kv.1 = k)) = (valV kvs k).isSome
  | [] => rfl
  | p :: r => by
    rw [List.any_cons]
    by_cases e : p.1 = k
    · simp only [valV_pos e, decide_eq_true e, Bool.true_or, Option.isSome_some]
    · rw [valV_neg e, decide_eq_false e, Bool.false_or]; exact valV_any k r
theorem valV_map (k j : κ) (y : V) : ∀ kvs : List (κ × V), valV (kvs.map fun kv => if kv.1 = k then (kv.1, y) else kv) j = (valV kvs j).map fun x => if j = k then y else x
  | [] => rfl
  | p :: r => by
    have ih := valV_map k j y r
    rw [List.map_cons]
    by_cases h : p.1 = k
    · rw [if_pos h]
      by_cases e : p.1 = j
      · rw [valV_pos (p := (p.1, y)) e, valV_pos e, Option.map_some, if_pos (e.symm.trans h)]
      · rw [valV_neg (p := (p.1, y)) e, valV_neg e, ih]
    · rw [if_neg h]
      by_cases e : p.1 = j
      · rw [valV_pos (p := p) e, valV_pos e, Option.map_some, if_neg (fun z => h (e.trans z))]
      · rw [valV_neg (p := p) e, valV_neg e, ih]
theorem valV_snoc (k j : κ) (y : V) : ∀ kvs : List (κ × V), valV kvs k = none → valV (kvs ++ [(k, y)]) j = if j = k then some y else valV kvs j
  | [], _ => by
    by_cases e : k = j
    · rw [if_pos e.symm]; exact valV_pos (p := (k, y)) e
    · rw [if_neg (fun z => e z.symm)]; exact valV_neg (p := (k, y)) e
  | p :: r, hn => by
    rw [List.cons_append]
    have hk : ¬ p.1 = k := fun z => by rw [valV_pos z] at hn; cases hn
    rw [valV_neg hk] at hn
    have ih := valV_snoc k j y r hn
    by_cases e : p.1 = j
    · rw [valV_pos e, valV_pos e, if_neg (fun z => hk (e.trans z))]
    · rw [valV_neg e, valV_neg e, ih]
theorem valV_put (kvs : List (κ × V)) (k j : κ) (y : V) : valV (putK kvs k y) j = if j = k then some y else valV kvs j := by
  unfold putK
  by_cases a : (kvs.any fun kv => decide (kv.1 = k)) = true
  · rw [if_pos a, valV_map]
    rw [valV_any] at a
    by_cases e : j = k
    · obtain ⟨x, hx⟩ := Option.isSome_iff_exists.mp a
      rw [if_pos e, e, hx, Option.map_some, if_pos rfl]
    · rw [if_neg e]
      cases valV kvs j with
      | none => rfl
      | some x => rw [Option.map_some, if_neg e]
  · rw [if_neg a]
    refine valV_snoc k j y kvs ?_
    rw [valV_any] at a
    cases q : valV kvs k with
    | none => rfl
    | some x => rw [q] at a; exact (a rfl).elim
theorem length_putK (kvs : List (κ × V)) (k : κ) (v : V) : (putK kvs k v).length ≤ kvs.length + 1 := by
  unfold putK
  split
  · rw [List.length_map]; omega
  · rw [List.length_append, List.length_cons, List.length_nil]; omega
theorem putK_new {kvs : List (κ × V)} {k : κ} (v : V) (h : valV kvs k = none) : putK kvs k v = kvs ++ [(k, v)] := by
  unfold putK
  rw [valV_any, h]
  exact if_neg (by decide)

theorem RelO.isSome_eq {o : Option V} {u : Option Value} (r : RelO o u) : o.isSome = u.isSome := by
  cases o with
  | none => cases u with
    | none => rfl
    | some _ => exact (show False from r).elim
  | some _ => cases u with
    | none => exact (show False from r).elim
    | some _ => rfl
theorem RelO.getD {o : Option V} {u : Option Value} {d : V} {d' : Value} (r : RelO o u) (rd : RelV d d') : RelV (o.getD d) (u.getD d') := by
  cases o with
  | none => cases u with
    | none => exact rd
    | some _ => exact (show False from r).elim
  | some _ => cases u with
    | none => exact (show False from r).elim
    | some _ => exact r

/-- raw tables of the same keys -/
theorem KV.val {kvs : List (κ × V)} {vs : List (κ × Value)} (r : KV kvs vs) (k : κ) : RelO (valV kvs k) (valueAt vs k) := by
  unfold KV at r
  induction r with
  | nil => exact True.intro
  | @cons p q ps qs h t ih =>
    obtain ⟨h1, h2⟩ := h
    by_cases e : p.1 = k
    · have e' : q.1 = k := h1.symm.trans e
      have b : valueAt (q :: qs) k = some q.2 := by simp [valueAt, List.find?_cons, e']
      rw [valV_pos e, b]; exact h2
    · have e' : ¬ q.1 = k := fun z => e (h1.trans z)
      have b : valueAt (q :: qs) k = valueAt qs k := by simp [valueAt, List.find?_cons, e']
      rw [valV_neg e, b]; exact ih
theorem KV.any {kvs : List (κ × V)} {vs : List (κ × Value)} (r : KV kvs vs) (k : κ) : (kvs.any fun kv => decide (kv.1 = k)) = vs.any fun kv => decide (kv.1 = k) := by
  unfold KV at r
  induction r with
  | nil => rfl
  | cons h t ih => rw [List.any_cons, List.any_cons, ih, h.1]
theorem KV.repl {kvs : List (κ × V)} {vs : List (κ × Value)} (r : KV kvs vs) (k : κ) {y : V} {u : Value} (ry : RelV y u) :
    KV (kvs.map fun kv => if kv.1 = k then (kv.1, y) else kv) (vs.map fun kv => if kv.1 = k then (kv.1, u) else kv) := by
  unfold KV at r ⊢
  induction r with
  | nil => exact .nil
  | @cons p q ps qs h t ih =>
    rw [List.map_cons, List.map_cons]
    refine .cons ?_ ih
    obtain ⟨h1, h2⟩ := h
    by_cases e : p.1 = k
    · rw [if_pos e, if_pos (h1.symm.trans e)]; exact ⟨h1, ry⟩
    · rw [if_neg e, if_neg (fun z => e (h1.trans z))]; exact ⟨h1, h2⟩
theorem KV.put {kvs : List (κ × V)} {vs : List (κ × Value)} (r : KV kvs vs) (k : κ) {y : V} {u : Value} (ry : RelV y u) : KV (putK kvs k y) (stored vs k u) := by
  unfold putK stored
  rw [r.any k]
  by_cases e : (vs.any fun kv => decide (kv.1 = k)) = true
  · rw [if_pos e, if_pos e]; exact r.repl k ry
  · rw [if_neg e, if_neg e]; exact Paired.snoc r ⟨rfl, ry⟩
theorem KV.drop {kvs : List (κ × V)} {vs : List (κ × Value)} (r : KV kvs vs) (k : κ) : KV (dropK kvs k) (without vs k) := by
  unfold KV at r ⊢
  unfold dropK without
  induction r with
  | nil => exact .nil
  | @cons p q ps qs h t ih =>
    obtain ⟨h1, h2⟩ := h
    rw [List.filter_cons, List.filter_cons]
    by_cases e : p.1 = k
    · have a : ¬ decide (p.1 ≠ k) = true := by simp [e]
      have b : ¬ decide (q.1 ≠ k) = true := by simp [h1.symm.trans e]
      rw [if_neg a, if_neg b]; exact ih
    · have e' : ¬ q.1 = k := fun z => e (h1.trans z)
      have a : decide (p.1 ≠ k) = true := by simp [e]
      have b : decide (q.1 ≠ k) = true := by simp [e']
      rw [if_pos a, if_pos b]; exact .cons ⟨h1, h2⟩ ih
theorem KV.keys {kvs : List (κ × V)} {vs : List (κ × Value)} (r : KV kvs vs) : kvs.map (·.1) = vs.map (·.1) := by
  unfold KV at r
  induction r with
  | nil => rfl
  | cons h t ih => rw [List.map_cons, List.map_cons, ih, h.1]
theorem KV.length {kvs : List (κ × V)} {vs : List (κ × Value)} (r : KV kvs vs) : kvs.length = vs.length := Paired.length r
theorem dropK_le (kvs : List (κ × V)) (k : κ) : (dropK kvs k).length ≤ kvs.length := List.length_filter_le _ _
end


/-! ### a tracked dict, its keys ints and texts or tuples of these -/
theorem kV_is {P : Program} {w : World} {k : Key} {u : Value} (r : RelV (kV k) u) : (mixKind P w).is k u = true := by
  cases k with
  | inl i => obtain ⟨t, e⟩ := (show ∃ t, u = Value.int i t from r); subst e; exact mixKind_int P w i t
  | inr x => obtain ⟨t, e⟩ := (show ∃ t, u = Value.str x t from r); subst e; exact mixKind_str P w x t
theorem kV_inj {a b : Key} (e : kV a = kV b) : a = b := by
  cases a with
  | inl i => cases b with
    | inl j => have e' : V.int i = V.int j := e; injection e' with e'; rw [e']
    | inr y => exact nomatch (show V.int i = V.str y from e)
  | inr x => cases b with
    | inl j => exact nomatch (show V.str x = V.int j from e)
    | inr y => have e' : V.str x = V.str y := e; injection e' with e'; rw [e']
theorem kVs_inj : ∀ {a b : List Key}, a.map kV = b.map kV → a = b
  | [], [], _ => rfl
  | [], _ :: _, e => by simp at e
  | _ :: _, [], e => by simp at e
  | x :: xs, y :: ys, e => by
    rw [List.map_cons, List.map_cons] at e
    injection e with e1 e2
    rw [kV_inj e1, kVs_inj e2]
theorem items_are {P : Program} {w : World} : ∀ {ks : List Key} {us : List Value}, Vals (ks.map kV) us → ItemsAre (mixKind P w) ks us
  | [], _, r => by rw [List.map_nil] at r; cases r; exact .nil
  | k :: ks, _, r => by
    rw [List.map_cons] at r
    cases r with
    | cons h t => exact .cons (kV_is h) (items_are t)

/-- raw entries of a dict with tuple keys -/
abbrev KT (H : Hp) : List (List Key × V) → List (List Key × Addr × Value) → Prop := Paired fun p q => p.1 = q.1 ∧ H q.2.1 = some (.tup (p.1.map kV)) ∧ RelV p.2 q.2.2
theorem KT.val {H : Hp} {kvs : List (List Key × V)} {xs : List (List Key × Addr × Value)} (r : KT H kvs xs) (k : List Key) : RelO (valV kvs k) ((atKey xs k).map (·.2)) := by
  induction r with
  | nil => exact True.intro
  | @cons p q ps qs h t ih =>
    obtain ⟨h1, _, h2⟩ := h
    by_cases e : p.1 = k
    · have e' : q.1 = k := h1.symm.trans e
      have b : atKey (q :: qs) k = some q.2 := by simp [atKey, List.find?_cons, e']
      rw [valV_pos e, b]; exact h2
    · have e' : ¬ q.1 = k := fun z => e (h1.trans z)
      have b : atKey (q :: qs) k = atKey qs k := by simp [atKey, List.find?_cons, e']
      rw [valV_neg e, b]; exact ih
theorem KT.repl {H : Hp} {kvs : List (List Key × V)} {xs : List (List Key × Addr × Value)} (r : KT H kvs xs) (k : List Key) {y : V} {u : Value} (ry : RelV y u) :
    KT H (kvs.map fun kv => if kv.1 = k then (kv.1, y) else kv) (xs.map (putAt k u)) := by
  induction r with
  | nil => exact .nil
  | @cons p q ps qs h t ih =>
    rw [List.map_cons, List.map_cons]
    refine .cons ?_ ih
    obtain ⟨h1, h2, h3⟩ := h
    unfold putAt
    by_cases e : p.1 = k
    · rw [if_pos e, if_pos (h1.symm.trans e)]; exact ⟨h1, h2, ry⟩
    · rw [if_neg e, if_neg (fun z => e (h1.trans z))]; exact ⟨h1, h2, h3⟩
theorem KT.put {H : Hp} {kvs : List (List Key × V)} {xs : List (List Key × Addr × Value)} (r : KT H kvs xs) (k : List Key) {b : Addr} {y : V} {u : Value} (hb : H b = some (.tup (k.map kV))) (ry : RelV y u) :
    KT H (putK kvs k y) (storedH xs k b u) := by
  have e : (kvs.any fun kv => decide (kv.1 = k)) = (atKey xs k).isSome := by
    rw [valV_any, (r.val k).isSome_eq, Option.isSome_map]
  unfold putK storedH
  rw [e]
  by_cases q : (atKey xs k).isSome = true
  · rw [if_pos q, if_pos q]; exact r.repl k ry
  · rw [if_neg q, if_neg q]; exact Paired.snoc r ⟨rfl, hb, ry⟩
theorem KT.keeps {H H' : Hp} {kvs : List (List Key × V)} {xs : List (List Key × Addr × Value)} (r : KT H kvs xs) (ht : ∀ b ys, H b = some (.tup ys) → H' b = some (.tup ys)) : KT H' kvs xs :=
  Paired.mapP r fun _ _ z => ⟨z.1, ht _ _ z.2.1, z.2.2⟩

section
variable {P : Program} {w : World} {H : Hp} {h : Heap} {a : Addr}
theorem rd_of {u : HO} (ok : HOk P w H h) (e : Rd H a u) : ObjOk P w H h a u := e.ok ok
theorem dk_rd {kvs : List (Key × V)} (ok : HOk P w H h) (e : Rd H a (.dK kvs)) : kvs.length ≤ sizeLine ∧ (a == sysModules) = false ∧ ∃ vs, KV kvs vs ∧ h.DictOf (mixKind P w) a vs :=
  show ObjOk P w H h a (.dK kvs) from rd_of ok e
theorem dk_of {kvs : List (Key × V)} (ok : HOk P w H h) (e : H a = some (.dK kvs)) : kvs.length ≤ sizeLine ∧ (a == sysModules) = false ∧ ∃ vs, KV kvs vs ∧ h.DictOf (mixKind P w) a vs := dk_rd ok (.inl e)
/-- a tracked tuple of ints and texts is a key -/
theorem key_of {ks : List Key} (ok : HOk P w H h) (e : H a = some (.tup (ks.map kV))) : (tupleKind (mixKind P w)).is h ks a := by
  obtain ⟨_, its, r, o, h1, h2, n, h3⟩ := (show ObjOk P w H h a (.tup (ks.map kV)) from ok a _ e)
  exact ⟨o, its.toArray, n, h1, h2, h3, by simpa using items_are r⟩
theorem dt_rd {kvs : List (List Key × V)} (ok : HOk P w H h) (e : Rd H a (.dT kvs)) : kvs.length ≤ sizeLine ∧ (a == sysModules) = false ∧
    ∃ xs, KT H kvs xs ∧ h.DictOfH (tupleKind (mixKind P w)) a xs := by
  obtain ⟨z, y, xs, r, o, es, ep, h1, h2, h3, h4, h5⟩ := (show ObjOk P w H h a (.dT kvs) from rd_of ok e)
  refine ⟨z, y, xs, r, o, es, ep, h1, h2, h3, h4, fun x hx => ?_, h5⟩
  have all : ∀ {l : List (List Key × V)} {m : List (List Key × Addr × Value)}, KT H l m → ∀ x ∈ m, (tupleKind (mixKind P w)).is h x.1 x.2.1 := by
    intro l m q
    induction q with
    | nil => intro x hx; exact nomatch hx
    | @cons p q ps qs hq t ih =>
      intro x hx
      rcases List.mem_cons.mp hx with e | hx
      · subst e
        exact key_of ok (by rw [← hq.1]; exact hq.2.1)
      · exact ih x hx
  exact all r x hx
theorem dt_of {kvs : List (List Key × V)} (ok : HOk P w H h) (e : H a = some (.dT kvs)) : kvs.length ≤ sizeLine ∧ (a == sysModules) = false ∧
    ∃ xs, KT H kvs xs ∧ h.DictOfH (tupleKind (mixKind P w)) a xs := dt_rd ok (.inl e)
end

/-- what the dict at a holds at the key y -/
def DGet (H : Hp) (a : Addr) (y : V) (r : Option V) : Prop :=
  (∃ kvs k, Rd H a (.dK kvs) ∧ y = kV k ∧ r = valV kvs k) ∨ ∃ kvs k b, Rd H a (.dT kvs) ∧ y = .ref b ∧ H b = some (.tup (k.map kV)) ∧ r = valV kvs k
/-- the heap behind a[y] = v -/
def DPut (H : Hp) (a : Addr) (y v : V) (H' : Hp) : Prop :=
  (∃ kvs k, H a = some (.dK kvs) ∧ y = kV k ∧ kvs.length < sizeLine ∧ H' = upd H a (.dK (putK kvs k v))) ∨
  ∃ kvs k b, H a = some (.dT kvs) ∧ y = .ref b ∧ H b = some (.tup (k.map kV)) ∧ kvs.length < sizeLine ∧ H' = upd H a (.dT (putK kvs k v))
theorem DGet.k {H : Hp} {a : Addr} {kvs : List (Key × V)} {k : Key} (e : H a = some (.dK kvs)) : DGet H a (kV k) (valV kvs k) := .inl ⟨kvs, k, .inl e, rfl, rfl⟩
theorem DGet.t {H : Hp} {a b : Addr} {kvs : List (List Key × V)} {k : List Key} (e : H a = some (.dT kvs)) (eb : H b = some (.tup (k.map kV))) : DGet H a (.ref b) (valV kvs k) := .inr ⟨kvs, k, b, .inl e, rfl, eb, rfl⟩
theorem DPut.k {H : Hp} {a : Addr} {kvs : List (Key × V)} {k : Key} {v : V} (e : H a = some (.dK kvs)) (hl : kvs.length < sizeLine) : DPut H a (kV k) v (upd H a (.dK (putK kvs k v))) := .inl ⟨kvs, k, e, rfl, hl, rfl⟩
theorem DPut.t {H : Hp} {a b : Addr} {kvs : List (List Key × V)} {k : List Key} {v : V} (e : H a = some (.dT kvs)) (eb : H b = some (.tup (k.map kV))) (hl : kvs.length < sizeLine) :
    DPut H a (.ref b) v (upd H a (.dT (putK kvs k v))) := .inr ⟨kvs, k, b, e, rfl, eb, hl, rfl⟩


section
variable {X : Cx} {pins : List (Addr × Obj)} {σ : St} {H : Hp} {s : Shared} {a : Addr} {y v : V} {u r : Value} {o : Option V} {A : Around} {E : Value → Shared → Prop}

theorem Inv.big (I : Inv X pins σ H s) : sysModules < s.heap.objs.size := by
  have h : mainGlobals < s.heap.objs.size := (I.mod.glob.keeps I.bk).lt
  exact Nat.lt_trans (by decide) h

/-- d[y], there -/
theorem d_getItem {Q : Value → Shared → Prop} (hu : A.units + 1 < cLine) (I : Inv X pins σ H s) (g : DGet H a y (some v)) (ry : RelV y u) (h : ∀ w' s', Inv X pins σ H s' → RelV v w' → Q w' s') :
    wpAny (model X.prog X.w) A (getItem (.ref a) u) Q E s := by
  rcases g with ⟨kvs, k, e, ey, l⟩ | ⟨kvs, k, b, e, ey, eb, l⟩
  · subst ey
    obtain ⟨z, hd, vs, rel, dd⟩ := dk_rd I.hok e
    obtain ⟨w', hw, rw'⟩ := RelO.some_of (v := v) (o := valueAt vs k) (by rw [l]; exact rel.val k)
    exact wpAny_getItem_of (kV_is ry) dd.mapOf hw (h w' _ (I.tok _) rw')
  · subst ey
    cases (show u = Value.ref b from ry)
    obtain ⟨z, hd, xs, rel, dd⟩ := dt_rd I.hok e
    obtain ⟨w', hw, rw'⟩ := RelO.some_of (v := v) (o := (atKey xs k).map (·.2)) (by rw [l]; exact rel.val k)
    obtain ⟨p, hp, hp2⟩ := Option.map_eq_some_iff.mp hw
    refine wpAny_getItem_heap (tupleKind_room_in1 hu) (key_of I.hok eb) dd hp ?_
    rw [hp2]
    exact h w' _ (I.tok _) rw'
/-- y in d -/
theorem d_in {Q : Value → Shared → Prop} (hu : A.units + 1 < cLine) (I : Inv X pins σ H s) (g : DGet H a y o) (ry : RelV y u) (h : ∀ s', Inv X pins σ H s' → Q (.bool o.isSome) s') :
    wpAny (model X.prog X.w) A (compareOp .In u (.ref a)) Q E s := by
  rcases g with ⟨kvs, k, e, ey, l⟩ | ⟨kvs, k, b, e, ey, eb, l⟩
  · subst ey
    obtain ⟨z, hd, vs, rel, dd⟩ := dk_rd I.hok e
    refine wpAny_in_of (kV_is ry) hd dd.mapOf ?_
    rw [← (rel.val k).isSome_eq, ← l]
    exact h _ (I.tok _)
  · subst ey
    cases (show u = Value.ref b from ry)
    obtain ⟨z, hd, xs, rel, dd⟩ := dt_rd I.hok e
    refine wpAny_in_heap (tupleKind_room_in1 hu) (key_of I.hok eb) hd dd ?_
    have q := (rel.val k).isSome_eq
    rw [Option.isSome_map] at q
    rw [← q, ← l]
    exact h _ (I.tok _)
theorem d_notIn {Q : Value → Shared → Prop} (hu : A.units + 1 < cLine) (I : Inv X pins σ H s) (g : DGet H a y o) (ry : RelV y u) (h : ∀ s', Inv X pins σ H s' → Q (.bool (!o.isSome)) s') :
    wpAny (model X.prog X.w) A (compareOp .NotIn u (.ref a)) Q E s := by
  rcases g with ⟨kvs, k, e, ey, l⟩ | ⟨kvs, k, b, e, ey, eb, l⟩
  · subst ey
    obtain ⟨z, hd, vs, rel, dd⟩ := dk_rd I.hok e
    refine wpAny_notIn_of (kV_is ry) hd dd.mapOf ?_
    rw [← (rel.val k).isSome_eq, ← l]
    exact h _ (I.tok _)
  · subst ey
    cases (show u = Value.ref b from ry)
    obtain ⟨z, hd, xs, rel, dd⟩ := dt_rd I.hok e
    refine wpAny_notIn_heap (tupleKind_room_in1 hu) (key_of I.hok eb) hd dd ?_
    have q := (rel.val k).isSome_eq
    rw [Option.isSome_map] at q
    rw [← q, ← l]
    exact h _ (I.tok _)
/-- a dict's object is replaced -/
theorem d_write {h' : Heap} {t' : Nat} {ob : HO} (I : Inv X pins σ H s) (mu : Mut (H a)) (hs : Heap.SameBut a s.heap h') (he : ∃ q, h'.get? a = some q) (new : ObjOk X.prog X.w (upd H a ob) h' a ob) :
    Inv X pins σ (upd H a ob) { s with heap := h', toks := t' } :=
  I.write (x := a) (e := a) mu (.inl rfl) (fun b q hb z => (hs.2 b hb).trans z) he new
theorem dk_new {P : Program} {w : World} {H' : Hp} {h' : Heap} {kvs : List (Key × V)} {vs : List (Key × Value)} (z : kvs.length ≤ sizeLine) (hd : (a == sysModules) = false) (rel : KV kvs vs) (dd : h'.DictOf (mixKind P w) a vs) :
    ObjOk P w H' h' a (.dK kvs) := ⟨z, hd, vs, rel, dd⟩
/-- d[y] = v -/
theorem d_setItem {H' : Hp} {Q : Unit → Shared → Prop} (hu : A.units + 1 < cLine) (I : Inv X pins σ H s) (g : DPut H a y v H') (ry : RelV y u) (rv : RelV v r) (h : ∀ s', Inv X pins σ H' s' → Q () s') :
    wpAny (model X.prog X.w) A (setItem (.ref a) u r) Q E s := by
  rcases g with ⟨kvs, k, e, ey, l, eH⟩ | ⟨kvs, k, b, e, ey, eb, l, eH⟩
  · subst ey eH
    obtain ⟨z, hd, vs, rel, dd⟩ := dk_of I.hok e
    have hz : vs.length ≤ sizeLine := by rw [← rel.length]; exact z
    have hl : (putK kvs k v).length ≤ sizeLine := by have := length_putK kvs k v; omega
    refine wpAny_setItem_pairs (hsz := hz) (kV_is ry) dd fun h' dd' hs => h _ ?_
    have he : ∃ q, h'.get? a = some q := let ⟨q, _, _, hq, _⟩ := dd'; ⟨q, hq⟩
    exact d_write I (by rw [e]; exact True.intro) hs he (dk_new hl hd (rel.put k rv) dd')
  · subst ey eH
    cases (show u = Value.ref b from ry)
    obtain ⟨z, hd, xs, rel, dd⟩ := dt_of I.hok e
    have hz : xs.length ≤ sizeLine := by rw [← Paired.length rel]; exact z
    have hl : (putK kvs k v).length ≤ sizeLine := by have := length_putK kvs k v; omega
    refine wpAny_setItem_heap (hsz := hz) (tupleKind_room_in1 hu) (key_of I.hok eb) dd fun h' dd' hs => h _ ?_
    obtain ⟨q, es, ep, hq, h2, h3, h4, _, h5⟩ := dd'
    refine d_write I (by rw [e]; exact True.intro) hs ⟨q, hq⟩ ⟨hl, hd, _, (rel.put k eb rv).keeps fun c ys ec => ?_, q, es, ep, hq, h2, h3, h4, h5⟩
    rw [upd_ne (ne_of ec e (fun z => nomatch z))]
    exact ec
end

section
variable {X : Cx} {pins : List (Addr × Obj)} {σ : St} {H : Hp} {s : Shared} {a : Addr} {kvs : List (Key × V)} {k : Key} {u : Value} {A : Around} {E : Value → Shared → Prop}
/-- del d[k] -/
theorem d_delItem {Q : Unit → Shared → Prop} (I : Inv X pins σ H s) (e : H a = some (.dK kvs)) (ry : RelV (kV k) u) (l : (valV kvs k).isSome = true) (h : ∀ s', Inv X pins σ (upd H a (.dK (dropK kvs k))) s' → Q () s') :
    wpAny (model X.prog X.w) A (delItem (.ref a) u) Q E s := by
  obtain ⟨z, hd, vs, rel, dd⟩ := dk_of I.hok e
  refine wpAny_delItem_slot dd.typeIs (by decide) PySem.F.slot_dict_delitem
    (call_meetsIn PySem.F.slot_dict_delitem dd.typeIs PySem.F.entry_dict_delitem (PySem.F.args_dict_delitem_2 _ _) (meets_dict_delitem_pairs (mixKind X.prog X.w) a (kV_is ry)) ⟨vs, dd, by rw [← rel.length]; exact z, by rw [← (rel.val k).isSome_eq]; exact l, fun h' dd' hs => h _ ?_⟩)
  have he : ∃ q, h'.get? a = some q := let ⟨q, _, _, hq, _⟩ := dd'; ⟨q, hq⟩
  exact d_write I (by rw [e]; exact True.intro) hs he (dk_new (Nat.le_trans (dropK_le kvs k) z) hd (rel.drop k) dd')
/-- d.pop(k[, x]), there -/
theorem d_pop {v : V} {more : List Value} {Q : Value → Shared → Prop} (I : Inv X pins σ H s) (e : H a = some (.dK kvs)) (ry : RelV (kV k) u) (l : valV kvs k = some v) (hm : more = [] ∨ ∃ x, more = [x])
    (h : ∀ w' s', Inv X pins σ (upd H a (.dK (dropK kvs k))) s' → RelV v w' → Q w' s') : wpAny (model X.prog X.w) A (call (.builtin "dict.pop") (.ref a :: u :: more)) Q E s := by
  obtain ⟨z, hd, vs, rel, dd⟩ := dk_of I.hok e
  obtain ⟨w', hw, rw'⟩ := RelO.some_of (v := v) (o := valueAt vs k) (by rw [← l]; exact rel.val k)
  have hp : (keyPart u).isSome = true := by
    cases k with
    | inl i => obtain ⟨t, q⟩ := (show ∃ t, u = Value.int i t from ry); subst q; rfl
    | inr x => obtain ⟨t, q⟩ := (show ∃ t, u = Value.str x t from ry); subst q; rfl
  have ha : argsOk "dict.pop" ⟨.ref a :: u :: more, []⟩ := by
    rcases hm with q | ⟨x, q⟩
    · subst q; exact PySem.F.args_dict_pop_2 _ _
    · subst q; exact PySem.F.args_dict_pop_3 _ _ _
  refine call_meetsIn PySem.F.slot_dict_pop dd.typeIs PySem.F.entry_dict_pop ha (meets_dict_pop_there (mixKind X.prog X.w) a (kV_is ry) more hm hp)
    ⟨vs, w', dd, by rw [← rel.length]; exact z, hw, fun h' dd' hs => h w' _ ?_ rw'⟩
  have he : ∃ q, h'.get? a = some q := let ⟨q, _, _, hq, _⟩ := dd'; ⟨q, hq⟩
  exact d_write I (by rw [e]; exact True.intro) hs he (dk_new (Nat.le_trans (dropK_le kvs k) z) hd (rel.drop k) dd')
/-- d.pop(k, x), not there -/
theorem d_popD {r : Value} {Q : Value → Shared → Prop} (I : Inv X pins σ H s) (e : H a = some (.dK kvs)) (ry : RelV (kV k) u) (l : valV kvs k = none) (h : ∀ s', Inv X pins σ H s' → Q r s') :
    wpAny (model X.prog X.w) A (call (.builtin "dict.pop") [.ref a, u, r]) Q E s := by
  obtain ⟨z, hd, vs, rel, dd⟩ := dk_of I.hok e
  have hn : valueAt vs k = none := RelO.none_of (by rw [← l]; exact rel.val k)
  have hp : (keyPart u).isSome = true := by
    cases k with
    | inl i => obtain ⟨t, q⟩ := (show ∃ t, u = Value.int i t from ry); subst q; rfl
    | inr x => obtain ⟨t, q⟩ := (show ∃ t, u = Value.str x t from ry); subst q; rfl
  exact call_meetsIn PySem.F.slot_dict_pop dd.typeIs PySem.F.entry_dict_pop (PySem.F.args_dict_pop_3 _ _ _) (meets_dict_pop_default (mixKind X.prog X.w) a (kV_is ry) hd hp r) ⟨vs, dd, hn, h _ (I.tok _)⟩
/-- d.clear() -/
theorem d_clear {Q : Value → Shared → Prop} (I : Inv X pins σ H s) (e : H a = some (.dK kvs)) (h : ∀ s', Inv X pins σ (upd H a (.dK [])) s' → Q .none s') : wpAny (model X.prog X.w) A (call (.builtin "dict.clear") [.ref a]) Q E s := by
  obtain ⟨z, hd, vs, rel, dd⟩ := dk_of I.hok e
  refine call_meetsIn PySem.F.slot_dict_clear dd.typeIs PySem.F.entry_dict_clear (PySem.F.args_dict_clear_1 _) (meets_dict_clear (mixKind X.prog X.w) a) ⟨vs, dd, by rw [← rel.length]; exact z, fun h' dd' hs => h _ ?_⟩
  have he : ∃ q, h'.get? a = some q := let ⟨q, _, _, hq, _⟩ := dd'; ⟨q, hq⟩
  exact d_write (t' := s.toks) I (by rw [e]; exact True.intro) hs he (dk_new (Nat.zero_le _) hd .nil dd')
/-- len(d) -/
theorem d_len {Q : Value → Shared → Prop} (I : Inv X pins σ H s) (e : Rd H a (.dK kvs)) (h : ∀ t s', Inv X pins σ H s' → Q (.int kvs.length t) s') : wpAny (model X.prog X.w) A (call (.builtin "len") [.ref a]) Q E s := by
  obtain ⟨z, hd, vs, rel, dd⟩ := dk_rd I.hok e
  refine call_len_dict hd dd (by rw [← rel.length]; rw [sizeLine_eq] at z; omega) ?_
  rw [← rel.length]
  exact h _ _ (I.tok _)
/-- if d -/
theorem d_truth {Q : Bool → Shared → Prop} (I : Inv X pins σ H s) (e : Rd H a (.dK kvs)) (h : ∀ s', Inv X pins σ H s' → Q (!kvs.isEmpty) s') : wpAny (model X.prog X.w) A (truthy (.ref a)) Q E s := by
  obtain ⟨z, hd, vs, rel, dd⟩ := dk_rd I.hok e
  refine wpAny_truthy_dict hd dd (by rw [← rel.length]; rw [sizeLine_eq] at z; omega) ?_
  have q : kvs.isEmpty = vs.isEmpty := by cases rel <;> rfl
  rw [← q]
  exact h _ (I.tok _)
end


/-! ### readings and rules -/
/-- the element of a subscription, not a slice -/
def NoSl (i : Expr) : Prop := ∀ ov iv, subscripted i false ov iv = operate [ov, iv] (getItem ov iv)
theorem subD_of {prog : Program} {w : World} {A : Around} {E : Value → Shared → Prop} {s : Shared} {env : Env} {value slice : Expr} {pos : Pos} {T id : String} {Q : Value → Shared → Prop}
    (hl : typeLookup (.type T) "__getitem__" = pure (some (.builtin id))) (hs : NoSl slice)
    (h : wpAny (model prog w) A (eval value env) (fun o s₁ => wpAny (model prog w) A (eval slice env) (fun i s₂ => s₂.TypeIs o T ∧ wpAny (model prog w) A (getItem o i) Q E s₂) E s₁) E s) :
    wpAny (model prog w) A (eval (.Subscript value slice pos) env) Q E s := by
  refine Subscript_ (wpAny_mono h (fun o s₁ h₁ => wpAny_mono h₁ (fun i s₂ h₂ => ?_) fun _ _ x => x) fun _ _ x => x)
  obtain ⟨hT, h₂⟩ := h₂
  unfold subscriptTail
  refine wpAny_bind ?_
  rw [getitemInPython_of_ne hT.not_modules]
  refine wpAny_bind (wpAny_specialOf hT hl ?_)
  have fin : wpAny (model prog w) A (subscripted slice false o i) (fun r s₃ => wpAny (model prog w) A (letTemporaryGo value o r >>= fun _ => pure r) Q E s₃) E s₂ := by
    rw [hs o i]
    exact wpAny_operating (wpAny_mono h₂ (fun r s₃ h₃ => wpAny_bind (wpAny_letTemporaryGo (wpAny_pure h₃))) fun _ _ x => x)
  first
    | exact wpAny_pure (wpAny_bind fin)
    | exact wpAny_bind (wpAny_pure (wpAny_bind fin))
    | exact wpAny_bind fin

theorem dict_typeIs {X : Cx} {pins : List (Addr × Obj)} {σ : St} {H : Hp} {s : Shared} {a : Addr} {y : V} {o : Option V} (I : Inv X pins σ H s) (g : DGet H a y o) : s.TypeIs (.ref a) "dict" := by
  rcases g with ⟨kvs, k, e, _, _⟩ | ⟨kvs, k, b, e, _, _, _⟩
  · obtain ⟨_, _, vs, _, dd⟩ := dk_rd I.hok e
    exact dd.typeIs
  · obtain ⟨_, _, xs, _, dd⟩ := dt_rd I.hok e
    exact dd.typeIs
theorem dict_noDict {X : Cx} {pins : List (Addr × Obj)} {σ : St} {H : Hp} {s : Shared} {a : Addr} {y : V} {o : Option V} (I : Inv X pins σ H s) (g : DGet H a y o) :
    ∀ b, Value.ref a = .ref b → ∃ ob, s.heap.get? b = some ob ∧ ob.dict = none := fun b q => by
  cases q
  rcases g with ⟨kvs, k, e, _, _⟩ | ⟨kvs, k, b, e, _, _, _⟩
  · obtain ⟨_, _, vs, _, ob, _, _, h1, h2, _⟩ := dk_rd I.hok e
    exact ⟨ob, h1, h2.2.1⟩
  · obtain ⟨_, _, xs, _, ob, _, _, h1, h2, _⟩ := dt_rd I.hok e
    exact ⟨ob, h1, h2.2.1⟩

/-- d[y] -/
def tDGet (td ty : TE) : TE := fun σ H Q => td σ H fun x H1 => ty σ H1 fun y H2 => ∃ a v, x = .ref a ∧ DGet H2 a y (some v) ∧ Q v H2
/-- y in d, y not in d -/
def tDIn (ty td : TE) : TE := fun σ H Q => ty σ H fun y H1 => td σ H1 fun x H2 => ∃ a o, x = .ref a ∧ DGet H2 a y o ∧ Q (.bl o.isSome) H2
def tDNotIn (ty td : TE) : TE := fun σ H Q => ty σ H fun y H1 => td σ H1 fun x H2 => ∃ a o, x = .ref a ∧ DGet H2 a y o ∧ Q (.bl (!o.isSome)) H2
/-- d[y] = v -/
def sDPut (td ty tv : TE) : TS := fun D σ H => tv σ H fun v H1 => td σ H1 fun x H2 => ty σ H2 fun y H3 => ∃ a H4, x = .ref a ∧ DPut H3 a y v H4 ∧ D.nx σ H4
/-- d[y] op= v -/
def sDAug (td ty tv : TE) (rd : V → V → Hp → VK → Prop) : TS := fun D σ H => td σ H fun x H1 => ty σ H1 fun y H2 => ∃ a v, x = .ref a ∧ DGet H2 a y (some v) ∧
  tv σ H2 fun y2 H3 => rd v y2 H3 fun z H4 => ∃ H5, DPut H4 a y z H5 ∧ D.nx σ H5
/-- del d[y] -/
def sDDel (td ty : TE) : TS := fun D σ H => td σ H fun x H1 => ty σ H1 fun y H2 => ∃ a kvs k, x = .ref a ∧ H2 a = some (.dK kvs) ∧ y = kV k ∧ (valV kvs k).isSome = true ∧ D.nx σ (upd H2 a (.dK (dropK kvs k)))

section
variable {X : Cx} {o i e value : Expr} {pos pos' tpos : Pos} {td ty tv : TE}
theorem pe_dget (hu : X.A.units + 1 < cLine) (ho : PE X o td) (hi : PE X i ty) (hs : NoSl i) : PE X (.Subscript o i pos) (tDGet td ty) := by
  intro pins s σ H Q I h
  refine subD_of PySem.F.slot_dict_getitem.lookup hs (thn (ho pins s σ H _ I h) fun u s1 ⟨x, H1, I1, rx, q1⟩ => thn (hi pins s1 σ H1 _ I1 q1) fun iv s2 ⟨y, H2, I2, ry, a, v, ex, g, q2⟩ => ?_)
  subst ex
  obtain rfl : u = Value.ref a := rx
  exact ⟨dict_typeIs I2 g, d_getItem hu I2 g ry fun w' s3 I3 rw' => ⟨v, H2, I3, rw', q2⟩⟩
theorem pc_din (hu : X.A.units + 1 < cLine) (hi : PE X i ty) (ho : PE X o td) : PC X .In i o (tDIn ty td) := by
  intro pins s σ H Q I h
  refine thn (hi pins s σ H _ I h) fun iv s1 ⟨y, H1, I1, ry, q1⟩ => thn (ho pins s1 σ H1 _ I1 q1) fun u s2 ⟨x, H2, I2, rx, a, ov, ex, g, q2⟩ => ?_
  subst ex
  obtain rfl : u = Value.ref a := rx
  exact d_in hu I2 g ry fun s3 I3 => ⟨.bl ov.isSome, H2, I3, rfl, q2⟩
theorem pc_dnotin (hu : X.A.units + 1 < cLine) (hi : PE X i ty) (ho : PE X o td) : PC X .NotIn i o (tDNotIn ty td) := by
  intro pins s σ H Q I h
  refine thn (hi pins s σ H _ I h) fun iv s1 ⟨y, H1, I1, ry, q1⟩ => thn (ho pins s1 σ H1 _ I1 q1) fun u s2 ⟨x, H2, I2, rx, a, ov, ex, g, q2⟩ => ?_
  subst ex
  obtain rfl : u = Value.ref a := rx
  exact d_notIn hu I2 g ry fun s3 I3 => ⟨.bl (!ov.isSome), H2, I3, rfl, q2⟩
theorem ps_dput (hu : X.A.units + 1 < cLine) (ho : PE X o td) (hi : PE X i ty) (hv : PE X value tv) (hs : swapsWith value (some (.Subscript o i pos')) pos.line X.env = pure false) :
    PS X (.Assign [.Subscript o i pos'] value pos) (sDPut td ty tv) := by
  intro pins s σ H D I h
  refine wpAny_Assign_Subscript (thn (hv pins s σ H _ I h) fun r s1 ⟨v, H1, I1, rv, q1⟩ => thn (ho pins s1 σ H1 _ I1 q1) fun u s2 ⟨x, H2, I2, rx, q2⟩ => thn (hi pins s2 σ H2 _ I2 q2) fun iv s3 ⟨y, H3, I3, ry, a, H4, ex, g, q3⟩ => ?_) hs
  subst ex
  obtain rfl : u = Value.ref a := rx
  exact d_setItem hu I3 g ry rv fun s4 I4 => ⟨σ, H4, I4, q3⟩
theorem ps_daug {op : Operator} {rd : V → V → Hp → VK → Prop} (hu : X.A.units + 1 < cLine) (ho : PE X o td) (hi : PE X i ty) (hv : PE X value tv) (hop : InOp X op rd)
    (ha : ∀ ov iv new, augStore i ov iv new = (do holding [new, ov, iv] (setItem ov iv new); release [new, ov, iv] []; pure .next)) : PS X (.AugAssign (.Subscript o i tpos) op value pos) (sDAug td ty tv rd) := by
  intro pins s σ H D I h
  refine wpAny_AugAssign_SubscriptAny (thn (ho pins s σ H _ I h) fun u s1 ⟨x, H1, I1, rx, q1⟩ => thn (hi pins s1 σ H1 _ I1 q1) fun iv s2 ⟨y, H2, I2, ry, a, v, ex, g, q2⟩ => ?_) ha
  subst ex
  obtain rfl : u = Value.ref a := rx
  refine d_getItem hu I2 g ry fun w' s3 I3 rw' => thn (hv pins s3 σ H2 _ I3 q2) fun w2 s4 ⟨y2, H3, I4, ry2, q3⟩ => thn (hop pins s4 σ H3 v y2 w' w2 _ I4 rw' ry2 q3) fun w3 s5 ⟨z, H4, I5, rz, H5, g5, q4⟩ => ?_
  exact d_setItem hu I5 g5 ry rz fun s6 I6 => ⟨σ, H5, I6, q4⟩
theorem ps_ddel (ho : PE X o td) (hi : PE X i ty) : PS X (.Delete [.Subscript o i tpos] pos) (sDDel td ty) := by
  intro pins s σ H D I h
  refine wpAny_Delete (wpAny_deleteEach_cons (wpAny_delete_Subscript (thn (ho pins s σ H _ I h) fun u s1 ⟨x, H1, I1, rx, q1⟩ => thn (hi pins s1 σ H1 _ I1 q1) fun iv s2 ⟨y, H2, I2, ry, a, kvs, k, ex, e, ey, l, q2⟩ => ?_)))
  subst ex ey
  obtain rfl : u = Value.ref a := rx
  exact d_delItem I2 e ry l fun s3 I3 => wpAny_deleteEach_nil ⟨σ, _, I3, q2⟩
end


/-! ### displays -/
theorem dk_empty {P : Program} {w : World} {H : Hp} (h : Heap) (hb : sysModules < h.objs.size) : ObjOk P w H (h.push { cls := .type "dict", data := .dict #[] }) h.objs.size (.dK []) :=
  ⟨Nat.zero_le _, beq_eq_false_iff_ne.mpr (Ne.symm (Nat.ne_of_lt hb)), [], .nil, Heap.DictOf.new h⟩
theorem dt_empty {P : Program} {w : World} {H : Hp} (h : Heap) (hb : sysModules < h.objs.size) : ObjOk P w H (h.push { cls := .type "dict", data := .dict #[] }) h.objs.size (.dT []) :=
  ⟨Nat.zero_le _, beq_eq_false_iff_ne.mpr (Ne.symm (Nat.ne_of_lt hb)), [], .nil, _, #[], 0, Heap.get?_push_size _ rfl, ⟨rfl, rfl, rfl⟩, rfl, rfl, List.nodup_nil⟩
/-- {}, to be a dict of the kind that is wanted -/
def tDNewK : TE := fun _ H Q => ∀ p, H p = none → Q (.ref p) (upd H p (.dK []))
def tDNewT : TE := fun _ H Q => ∀ p, H p = none → Q (.ref p) (upd H p (.dT []))
section
variable {X : Cx} {pos : Pos}
theorem pe_dnewK : PE X (.Dict [] [] pos) tDNewK := fun pins s σ H Q I h =>
  wpAny_Dict_empty ⟨.ref s.heap.objs.size, _, I.laid (a := s.heap.objs.size) (o := .dK []) (t' := s.toks) (fun _ _ q => Heap.get?_push_of_some _ q) (Nat.le_refl _) (dk_empty s.heap I.big), rfl, h _ (I.hok.fresh (Nat.le_refl _))⟩
theorem pe_dnewT : PE X (.Dict [] [] pos) tDNewT := fun pins s σ H Q I h =>
  wpAny_Dict_empty ⟨.ref s.heap.objs.size, _, I.laid (a := s.heap.objs.size) (o := .dT []) (t' := s.toks) (fun _ _ q => Heap.get?_push_of_some _ q) (Nat.le_refl _) (dt_empty s.heap I.big), rfl, h _ (I.hok.fresh (Nat.le_refl _))⟩
end
end L2
set_option Elab.async false
set_option linter.all false
set_option maxRecDepth 100000
set_option maxHeartbeats 4000000
namespace L2
open PySem PySem.Spec PyProof.Rows
/-! ### dicts that stand at the file's top, by texts -/
/-- the pairs of such a dict -/
def topKvs : List DictEntry → List (Str × Value)
  | [] => []
  | e :: r => match e.key with
    | .str x _ => (x, e.val) :: topKvs r
    | _ => topKvs r
def TDict (K : PySem.W.Frag) (w : World) (a : Addr) (kvs : List (Str × Value)) : Prop :=
  ∃ (es : List DictEntry) (n : Nat), K.lookup a = some ⟨.type "dict", none, .dict es.toArray n, #[]⟩ ∧ PySem.W.KeysLit w.params es ∧ topKvs es = kvs
def valT (kvs : List (Str × Value)) (x : Str) : Option Value := (kvs.find? fun p => p.1 == x).map (·.2)
theorem find_top : ∀ (es : List DictEntry) (x : Str), (es.find? fun e => Value.isStrOf x e.key).map (·.val) = valT (topKvs es) x
  | [], _ => rfl
  | e :: r, x => by
    unfold topKvs
    rw [List.find?_cons]
    cases hk : e.key with
    | str y t =>
      dsimp only
      unfold valT
      rw [List.find?_cons]
      show Option.map _ (match (y == x) with | true => some e | false => _) = _
      cases y == x
      · exact find_top r x
      · rfl
    | _ => exact find_top r x
theorem TDict.map {K : PySem.W.Frag} {w : World} {a : Addr} {kvs : List (Str × Value)} {prog : Program} {h : Heap} (d : TDict K w a kvs) (X : K.In h) : h.MapOf (strKind prog w) a (fun k => valT kvs k) := by
  obtain ⟨es, n, hl, hk, rfl⟩ := d
  have m := PySem.W.mapOf_K (prog := prog) X hl hk
  have e : (fun k => findBy Value.isStrOf es.toArray k) = fun k => valT (topKvs es) k := funext fun x => by
    unfold findBy
    rw [List.find?_toArray]
    exact find_top es x
  rw [e] at m
  exact m
section
variable {X : Cx}
theorem op_inTop : OpR X (compareOp .In) (fun x y H Q => ∃ z a kvs, x = .str z ∧ y = .ref a ∧ TDict X.K X.w a kvs ∧ (a == sysModules) = false ∧ Q (.bl (valT kvs z).isSome) H) := by
  intro pins s σ H x y v u Q I rx ry h
  obtain ⟨z, a, kvs, rfl, rfl, d, lo, q⟩ := h
  obtain ⟨t, rfl⟩ := rx
  cases ry
  exact wpAny_in_of (strKind_is X.prog X.w z t) lo (d.map I.kIn) ⟨.bl _, H, I.tok _, rfl, q⟩
theorem op_notInTop : OpR X (compareOp .NotIn) (fun x y H Q => ∃ z a kvs, x = .str z ∧ y = .ref a ∧ TDict X.K X.w a kvs ∧ (a == sysModules) = false ∧ Q (.bl (!(valT kvs z).isSome)) H) := by
  intro pins s σ H x y v u Q I rx ry h
  obtain ⟨z, a, kvs, rfl, rfl, d, lo, q⟩ := h
  obtain ⟨t, rfl⟩ := rx
  cases ry
  exact wpAny_notIn_of (strKind_is X.prog X.w z t) lo (d.map I.kIn) ⟨.bl _, H, I.tok _, rfl, q⟩
theorem ix_top : IxR X (fun x y H Q => ∃ z a kvs u v, x = .ref a ∧ y = .str z ∧ TDict X.K X.w a kvs ∧ valT kvs z = some u ∧ RelV v u ∧ Q v H) := by
  intro value slice pins s σ H x y v u Q I rx ry h hs
  obtain ⟨z, a, kvs, u', v', rfl, rfl, d, e, r, q⟩ := h
  obtain ⟨t, rfl⟩ := ry
  cases rx
  have hm := d.map (prog := X.prog) I.kIn
  exact tail_any hm.typeIs slot_dict_getitem.lookup (wpAny_getItem_of (strKind_is X.prog X.w z t) hm e ⟨v', H, I.tok _, r, q⟩) hs
end
end L2
set_option Elab.async false
set_option linter.all false
set_option maxRecDepth 100000
set_option maxHeartbeats 4000000
namespace L2
open PySem PySem.Spec PyProof.Rows
/-! ### walking a text's signs -/
def Its (x : Str) : It := ⟨fun i _ => i < x.cps.size, fun i H v H' => H' = H ∧ ∃ c, x.cps[i]? = some c ∧ v = .str ⟨#[c]⟩, fun i _ => x.cps.size ≤ i⟩
theorem turn_strA {P : Program} {w : World} {K : PySem.W.Frag} {tg : Expr} (x : Str) (t : Tok) (it : Addr) : Turn P w K tg (Its x) [it] it (fun i h => h.IsStrIter it "str_ascii_iterator" x t i) where
  mem := by simp
  obj := fun i h st b hb => by
    have e : b = it := by simpa using hb
    subst e
    obtain ⟨o, e, c, d⟩ := st
    exact ⟨o, e, fun v z => by rw [d] at z; cases z⟩
  keep := fun i h h' st k => let ⟨o, e, r⟩ := st; ⟨o, k it (by simp) o e, r⟩
  item := by
    intro X hP hw hK hc i pins s σ H E I hf st hg
    subst hP hw hK
    have hg : i < x.cps.size := hg
    obtain ⟨f0, f1, f2, f3, f4, f5⟩ := hf it (by simp)
    have hx : x.cps[i]? = some x.cps[i] := by simp [hg]
    refine wpAny_pyNext_ascii_item st (c := x.cps[i]) hx fun h' st' sb => ?_
    have I1 : ∀ tk, Inv X pins σ H { s with heap := h', toks := tk } := fun tk => I.turned (t' := tk) (fun b o hb e => (sb.2 b hb).trans e) f0 f1 f3 f4 f5
    obtain ⟨o, e, c, d⟩ := id st'
    exact ⟨_, rfl, go_of (s := { s with heap := h', toks := s.toks + 1 }) e c d (by decide) ⟨.str ⟨#[x.cps[i]]⟩, H, I1 _, ⟨_, rfl⟩, ⟨rfl, _, hx, rfl⟩, st', fun b hb => (hf b hb).1⟩⟩
  done := by
    intro X hP hw hK hc i pins s σ H E I hf st hg
    subst hP hw hK
    have hg : x.cps.size ≤ i := hg
    obtain ⟨f0, f1, f2, f3, f4, f5⟩ := hf it (by simp)
    exact wpAny_pyNext_ascii_end (I.ok.hd hc) st (by simp [hg]) fun h' eb => ⟨rfl, I.turned (t' := s.toks) (fun b o hb e => eb b o hb e) f0 f1 f3 f4 f5⟩
  self := fun _ _ _ _ _ st h => wpAny_pyIter_striter_ascii st h
theorem turn_strW {P : Program} {w : World} {K : PySem.W.Frag} {tg : Expr} (x : Str) (t : Tok) (it : Addr) : Turn P w K tg (Its x) [it] it (fun i h => h.IsStrIter it "str_iterator" x t i) where
  mem := by simp
  obj := fun i h st b hb => by
    have e : b = it := by simpa using hb
    subst e
    obtain ⟨o, e, c, d⟩ := st
    exact ⟨o, e, fun v z => by rw [d] at z; cases z⟩
  keep := fun i h h' st k => let ⟨o, e, r⟩ := st; ⟨o, k it (by simp) o e, r⟩
  item := by
    intro X hP hw hK hc i pins s σ H E I hf st hg
    subst hP hw hK
    have hg : i < x.cps.size := hg
    obtain ⟨f0, f1, f2, f3, f4, f5⟩ := hf it (by simp)
    have hx : x.cps[i]? = some x.cps[i] := by simp [hg]
    refine wpAny_pyNext_wide_item st (c := x.cps[i]) hx fun h' st' sb => ?_
    have I1 : ∀ tk, Inv X pins σ H { s with heap := h', toks := tk } := fun tk => I.turned (t' := tk) (fun b o hb e => (sb.2 b hb).trans e) f0 f1 f3 f4 f5
    obtain ⟨o, e, c, d⟩ := id st'
    exact ⟨_, rfl, go_of (s := { s with heap := h', toks := s.toks + 1 }) e c d (by decide) ⟨.str ⟨#[x.cps[i]]⟩, H, I1 _, ⟨_, rfl⟩, ⟨rfl, _, hx, rfl⟩, st', fun b hb => (hf b hb).1⟩⟩
  done := by
    intro X hP hw hK hc i pins s σ H E I hf st hg
    subst hP hw hK
    have hg : x.cps.size ≤ i := hg
    obtain ⟨f0, f1, f2, f3, f4, f5⟩ := hf it (by simp)
    exact wpAny_pyNext_wide_end (I.ok.hd hc) st (by simp [hg]) fun h' eb => ⟨rfl, I.turned (t' := s.toks) (fun b o hb e => eb b o hb e) f0 f1 f3 f4 f5⟩
  self := fun _ _ _ _ _ st h => wpAny_pyIter_striter_wide st h
section
variable {X : Cx} {tg : Expr}
def iStr (tl : TE) : TI := fun σ H R => tl σ H fun v H1 => ∃ x, v = .str x ∧ R (Its x) H1
theorem pi_str {l : Expr} {tl : TE} (hl : PE X l tl) : PI X tg l (iStr tl) := by
  intro pins s σ H R I h
  refine thn (hl pins s σ H _ I h) fun v s1 ⟨v', H1, I1, r1, q1⟩ => ?_
  obtain ⟨x, e, q⟩ := q1
  subst e
  obtain ⟨t, rfl⟩ := r1
  have fp : ∀ b ∈ [s1.heap.objs.size], FpOk X pins H1 b := fun b hb => by
    have e : b = s1.heap.objs.size := by simpa using hb
    subst e
    exact I1.fpOk (Nat.le_refl _) (I1.hok.fresh (Nat.le_refl _))
  cases ha : x.cps.all (· < 128)
  · exact wpAny_pyIter_wide ha ⟨s1.heap.objs.size, [s1.heap.objs.size], _, _, H1, rfl, I1.kept (t' := s1.toks) fun b o e => Heap.get?_push_of_some _ e, turn_strW x t _, ⟨_, Heap.get?_push_size _ rfl, rfl, rfl⟩, fp, q⟩
  · exact wpAny_pyIter_ascii ha ⟨s1.heap.objs.size, [s1.heap.objs.size], _, _, H1, rfl, I1.kept (t' := s1.toks) fun b o e => Heap.get?_push_of_some _ e, turn_strA x t _, ⟨_, Heap.get?_push_size _ rfl, rfl, rfl⟩, fp, q⟩
theorem qi_str {l : Expr} {tl : TE} (hl : QE X l tl) : QI X tg l (iStr tl) := ⟨pi_str hl.h⟩
end
end L2
set_option Elab.async false
set_option linter.all false
set_option maxRecDepth 100000
set_option maxHeartbeats 4000000
namespace L2
open PySem PySem.Spec PySem.Calls PyProof.Rows Builtin Builtin.Str
section
variable {X : Cx}
theorem all_range (bs : List Bool) : (List.range bs.length).all (fun i => bs[i]?.getD true) = bs.all id := by
  rw [Bool.eq_iff_iff, List.all_eq_true, List.all_eq_true]
  constructor
  · intro h b hb
    obtain ⟨i, hi, rfl⟩ := List.mem_iff_getElem.mp hb
    have := h i (List.mem_range.mpr hi)
    rw [List.getElem?_eq_getElem hi] at this
    exact this
  · intro h i hi
    have hi := List.mem_range.mp hi
    rw [List.getElem?_eq_getElem hi]
    exact h _ (List.getElem_mem hi)
theorem vals_bl {bs : List Bool} {its : List Value} (r : Vals (bs.map V.bl) its) {i : Nat} {v : Value} (h : its[i]? = some v) : v = .bool (bs[i]?.getD true) := by
  have hi : i < its.length := (List.getElem?_eq_some_iff.mp h).1
  have hl := r.length
  rw [List.length_map] at hl
  have hb : bs[i]? = some (bs[i]'(by omega)) := List.getElem?_eq_getElem (by omega)
  obtain ⟨u, e, ru⟩ := r.get (i := i) (x := V.bl (bs[i]'(by omega))) (by rw [List.getElem?_map, hb]; rfl)
  rw [h] at e
  cases e
  rw [hb]
  exact ru
/-- all(..) of a list of truths -/
theorem call_all (hc : X.calm = true) : CallR X (.builtin "all") (fun xs H Q => ∃ (p : Addr) (bs : List Bool), xs = [.ref p] ∧ SqL X.K H p (bs.map V.bl) ∧ Q (.bl (bs.all id)) H) := by
  intro pins s σ H xs us Q I r h
  obtain ⟨p, bs, rfl, hq, q⟩ := h
  obtain ⟨u, rfl, ru⟩ := vals1 r
  cases ru
  obtain ⟨its, rv, pl, _⟩ := I.list hq
  have hl := pl.isList
  have hpl : p ≠ s.heap.objs.size := by
    obtain ⟨o, h1, _⟩ := hl
    exact Nat.ne_of_lt (Heap.lt_size h1)
  have hlen := rv.length
  rw [List.length_map] at hlen
  refine call_all_walk (wpAny_pyIter_list hl ⟨s.heap.objs.size, _, _, _, _, _, fun i => bs[i]?.getD true, rfl, Walks.list (A := X.A.in1) (I.ok.hd hc) _ p hpl its.toArray, ⟨⟨_, Heap.get?_push_size _ rfl, rfl, rfl⟩, ?_⟩, ?_, fun h' tk hk => ⟨.bl _, H, I.kept (fun b o e => hk b o ?_ (Heap.get?_push_of_some _ e)), ?_, q⟩⟩)
  · exact hl.at fun o e => Heap.get?_push_of_some _ e
  · intro i v s' Q' E' hP hQ
    have e := vals_bl rv (i := i) (v := v) (by simpa using hP)
    subst e
    exact wpAny_truthy_bool hQ
  · intro z
    rw [List.mem_singleton.mp z] at e
    exact absurd (Heap.lt_size e) (Nat.lt_irrefl _)
  · show Value.bool _ = Value.bool _
    rw [List.size_toArray, ← hlen, all_range]
/-- x.split(y) -/
def rSplit : V → List V → Hp → VK → Prop := fun x xs H Q => ∃ z y, x = .str z ∧ xs = [.str y] ∧ (y.length == 0) = false ∧ z.length ≤ sizeLine ∧ (Txt.split z y).length ≤ sizeLine ∧ (partsBetween z (occurrences z y 0 z.length (z.length + 1)) y.length).length ≤ sizeLine ∧
  ∀ l, H l = none → Q (.ref l) (upd H l (.lst ((Txt.split z y).map V.str)))
theorem strs_vals : ∀ (l : List (Str × Tok)), Vals ((l.map (·.1)).map V.str) (strValues l)
  | [] => .nil
  | p :: r => .cons ⟨p.2, rfl⟩ (strs_vals r)
theorem mt_split : MtR X "str.split" rSplit := by
  intro pins s σ H x vs v us Q I rx rv h
  obtain ⟨z, y, rfl, rfl, hy, hz, hz2, hsz2, q⟩ := h
  obtain ⟨t, rfl⟩ := rx
  obtain ⟨u', rfl, ru⟩ := rv.one
  obtain ⟨u, rfl⟩ := ru
  have fin : ∀ (l : List (Str × Tok)) (tk : Nat), l.map (·.1) = Txt.split z y → EP X pins σ Q (.ref s.heap.objs.size) { s with toks := tk, heap := s.heap.push { cls := .type "list", data := .seq (strValues l).toArray } } := fun l tk e => by
    have rl := strs_vals l
    rw [e] at rl
    exact ⟨.ref _, _, I.lnew (t' := tk) rl (by rw [List.length_map]; exact hz2), rfl, q _ I.fresh⟩
  cases h1 : (decide (z.length < y.length) || decide (strKind z < strKind y))
  · cases hf : (occurrences z y 0 z.length (z.length + 1)).isEmpty
    · refine call_meets F.slot_str_split (typeIs_str _ _ _) F.entry_str_split (F.args_str_split_2 _ _) (meets_str_split_sep z y t u h1 hy hf hz hsz2) ?_
      show wants _ _ _ { s with toks := _, heap := s.heap.push { cls := .type "list", data := .seq (strsFrom s.toks (partsBetween z (occurrences z y 0 z.length (z.length + 1)) y.length)).toArray } }
      rw [strsFrom_eq]
      exact fin (numbered s.toks _) _ ((numbered_texts _ _).trans ((if_neg (ne_true_of_eq_false h1)).trans (if_neg (ne_true_of_eq_false hf))).symm)
    · exact call_meets F.slot_str_split (typeIs_str _ _ _) F.entry_str_split (F.args_str_split_2 _ _) (meets_str_split_not_found z y t u h1 hy hf) (fin [(z, t)] _ ((if_neg (ne_true_of_eq_false h1)).trans (if_pos hf)).symm)
  · exact call_meets F.slot_str_split (typeIs_str _ _ _) F.entry_str_split (F.args_str_split_2 _ _) (meets_str_split_cannot_occur z y t u h1) (fin [(z, t)] _ (if_pos h1).symm)
/-- a comprehension over a text -/
theorem comp_strM {x : Str} {ys : List V} {js : List Nat} {te : TE} {σ : St} {Q : VK} {D : Addr} {H1 : Hp} (hz : x.cps.size < sizeLine) (hlen : ys.length = x.cps.size) (hD : H1 D = none)
    (he : ∀ (i c : Nat) (y : V) (H : Hp), x.cps[i]? = some c → ys[i]? = some y → Same H1 H → ∀ Q' : VK, (∀ H', Same H H' → Q' y H') → te (some (.str ⟨#[c]⟩) :: compS js σ) H Q')
    (hq : ∀ H', Same H1 H' → H' D = some (.lst ys) → Q (.ref D) H') : CompW (Its x) js tYes te σ Q D H1 := by
  refine ⟨fun i m acc H => m = x.cps.size - i ∧ i ≤ x.cps.size ∧ acc = ys.take i ∧ Same H1 H ∧ H D = some (.lst acc), ⟨x.cps.size, by simp, Nat.zero_le _, rfl, same_new hD _, upd_same⟩, ?_⟩
  rintro i m acc H ⟨hm, hi, e, s, d⟩
  refine ⟨d, by rw [e, List.length_take]; omega, ?_⟩
  by_cases hlt : i < x.cps.size
  · refine .inr ⟨hlt, fun v H' yl => ?_⟩
    obtain ⟨e', c, hc, rfl⟩ := yl
    subst e'
    unfold tYes
    dsimp only
    rw [if_pos rfl]
    obtain ⟨y, hy⟩ := some_of_lt (xs := ys) (i := i) (by omega)
    exact he i c y H' hc hy s _ fun H'' s' => cstep hlt hm (s' _ _ d) ⟨by rw [e, take_snoc hy], same_upd hD (s.trans s'), upd_same⟩
  · have e0 : i = x.cps.size := by omega
    subst e0
    refine .inl ⟨Nat.le_refl _, hq H s ?_⟩
    rw [d, e, List.take_of_length_le (by omega)]
end
end L2
set_option Elab.async false
set_option linter.all false
set_option maxRecDepth 100000
set_option maxHeartbeats 4000000
namespace L2
open PySem PySem.Spec PySem.Calls PyProof.Rows Builtin Builtin.Tuple
theorem rep_size (items : Array Value) (m : Nat) : ((List.replicate m items).foldl (· ++ ·) #[]).size = items.size * m := by
  obtain ⟨its⟩ := items
  have := foldl_rep its m []
  rw [List.nil_append] at this
  have e : (List.replicate m its.toArray).foldl (· ++ ·) #[] = (List.replicate m its).flatten.toArray := this
  rw [e, List.size_toArray, len_rep, List.size_toArray, Nat.mul_comm]
theorem tuple_mulW (t : Addr) (items : Array Value) (n : Nat) (dd : Option Addr) (sl : Array (Option Value)) (x : Int) (u : Tok) (h2 : 2 ≤ x) (h63 : x < 2 ^ 63) (hne : items.isEmpty = false) (hsz : items.size * x.toNat ≤ sizeLine) :
    Meets (Builtin.«tuple.__mul__» ⟨[.ref t, .int x u], []⟩) (fun _ R s => s.heap.get? t = some { cls := .type "tuple", dict := dd, data := .seq items n, slots := sl } ∧
      R (.ok (.ret (.ref s.heap.objs.size))) { s with heap := s.heap.push { cls := .type "tuple", data := .seq ((List.replicate x.toNat items).foldl (· ++ ·) #[]) } }) :=
  .of_wp fun prog w A R s h => by
    obtain ⟨hp, g, d, tk, os⟩ := s; obtain ⟨hl, h⟩ := h
    have c1 : (decide (x < -(2 ^ 63 : Int)) || decide (x ≥ 2 ^ 63)) = false := by
      rw [decide_eq_false (by omega), decide_eq_false (by omega)]; rfl
    have c2 : (items.isEmpty || x == 1) = false := by
      rw [hne, Bool.false_or]; exact beq_eq_false_iff_ne.mpr (by omega)
    have c3 : (decide (x ≤ 0) || items.isEmpty) = false := by
      rw [hne, Bool.or_false]; exact decide_eq_false (by omega)
    have e : (items.size : Int) * x = ((items.size * x.toNat : Nat) : Int) := by
      rw [Int.natCast_mul, Int.toNat_of_nonneg (by omega)]
    have hL : (sizeLine : Nat) ≤ (2 ^ 63 - 1) / 8 := by decide
    have c4 : ¬ ((items.size : Int) * x > (2 ^ 63 - 1) / 8) := by rw [e]; omega
    have c5 : ¬ (tupleTooMany ((items.size : Int) * x) = true) := by
      unfold tupleTooMany
      rw [e]
      simp only [decide_eq_true_eq]
      omega
    wp_walk
    have bf : ∀ {b : Bool}, b = false → decide (b = true) = false := fun e => by rw [e]; rfl
    refine wpAny_ite_false (bf c1) ?_
    wp_walk using wpAny_loadPart' hl
    refine wpAny_ite_false (bf c2) ?_
    wp_walk
    refine wpAny_ite_false (bf c3) ?_
    wp_walk
    refine wpAny_ite_false (decide_eq_false c4) ?_
    wp_walk
    refine wpAny_ite_false (decide_eq_false c5) ?_
    wp_walk
    refine wpAny_ite_false (decide_eq_false (by rw [rep_size]; omega)) ?_
    wp_walk
    exact ⟨_, rfl, h⟩
/-- a tuple times a number from 2 on -/
def rRepT (K : PySem.W.Frag) : R2 := fun x y H Q => ∃ l k xs, x = .ref l ∧ y = .int k ∧ SqT K H l xs ∧ xs ≠ [] ∧ 2 ≤ k ∧ k < 2 ^ 63 ∧ xs.length * k.toNat ≤ sizeLine ∧
  ∀ p, H p = none → Q (.ref p) (upd H p (.tup (List.replicate k.toNat xs).flatten))
theorem noFill_tuple_mul : fillsNumberSlot (.type "tuple") "mul" = pure false :=
  PySem.fillsNumberSlot_seq (id := "tuple.__mul__") (r := some (.builtin "tuple.__rmul__")) PySem.F.slot_tuple_mul.lookup (by decide +kernel) PySem.F.slot_tuple_rmul.lookup (by decide +kernel)
theorem repeat_tuple : seqRepeat? (.type "tuple") = pure (some (.builtin "tuple.__mul__")) := by
  unfold seqRepeat?
  rw [PySem.seqSlot_of (T := "tuple") (name := "__mul__") (id := "tuple.__mul__") PySem.F.slot_tuple_mul.lookup (by decide +kernel), PySem.seqSlot_of (T := "tuple") (name := "__rmul__") (id := "tuple.__rmul__") PySem.F.slot_tuple_rmul.lookup (by decide +kernel)]
  rfl
theorem int_rmul_tuple (a : Int) (t : Tok) (l : Addr) (items : Array Value) (n : Nat) (dd : Option Addr) (sl : Array (Option Value)) :
    Meets (Builtin.«int.__rmul__» ⟨[.int a t, .ref l], []⟩) (fun _ R s => s.heap.get? l = some { cls := .type "tuple", dict := dd, data := .seq items n, slots := sl } ∧ R (.ok (.ret Value.notImplemented)) s) :=
  .of_wp fun prog w A R s h => by obtain ⟨hp, g, d, tk, os⟩ := s; obtain ⟨hl, h⟩ := h; wp_walk using wpAny_loadPart' hl; exact ⟨_, rfl, h⟩
section
variable {X : Cx}
theorem op_repT : OpR X (binaryOp .Mult) (rRepT X.K) := by
  intro pins s σ H x y v u Q I rx ry h
  obtain ⟨l, k, xs, rfl, rfl, hq, hne, h2, h63, hz, q⟩ := h
  cases rx
  obtain ⟨t, rfl⟩ := ry
  obtain ⟨its, r, ⟨⟨cls, dd, data, sl⟩, ho, hc, n, hd⟩, _⟩ := I.tuple hq
  simp only at hc hd
  subst hc hd
  have hl := r.length
  have hi : its.toArray.isEmpty = false := by
    cases its with
    | nil => exact absurd (List.eq_nil_of_length_eq_zero hl) hne
    | cons a b => rfl
  refine wpAny_binaryOp_repeat_ref (T := "tuple") (U := "int") (by decide) ⟨_, ho, rfl⟩ (fun s' => typeIs_int s' k t) noFill_tuple_mul PySem.F.fills_int_mul PySem.F.slot_int_rmul repeat_tuple PySem.F.slot_int_index.lookup
    (call_meets PySem.F.slot_int_rmul (typeIs_int s k t) PySem.F.entry_int_rmul (PySem.F.args_int_rmul_2 _ _) (int_rmul_tuple k t l its.toArray n dd sl)
      ⟨ho, rfl, ⟨_, ho, rfl⟩, call_meets PySem.F.slot_tuple_mul ⟨_, ho, rfl⟩ PySem.F.entry_tuple_mul (PySem.F.args_tuple_mul_2 _ _) (tuple_mulW l its.toArray n dd sl k t h2 h63 hi (by rw [List.size_toArray, ← hl]; exact hz)) ⟨ho, ?_⟩⟩)
  have f0 : List.foldl (fun x1 x2 => x1 ++ x2) #[] (List.replicate k.toNat its.toArray) = (List.replicate k.toNat its).flatten.toArray := by
    have := foldl_rep its k.toNat []
    rw [List.nil_append] at this
    exact this
  rw [f0]
  refine ⟨.ref _, _, I.laid (o := .tup (List.replicate k.toNat xs).flatten) (t' := s.toks) (fun _ _ q' => Heap.get?_push_of_some _ q') (Nat.le_refl _) ⟨?_, _, r.rep k.toNat, ⟨_, Heap.get?_push_size _ rfl, rfl, _, rfl⟩⟩, rfl, q _ I.fresh⟩
  rw [len_rep, Nat.mul_comm]
  exact hz
end
end L2
set_option Elab.async false
set_option linter.all false
set_option maxRecDepth 100000
set_option maxHeartbeats 4000000
namespace K3
open PySem L2
/-! HEAD -/
def top (i : Nat) : Stmt := PySem.Challenge.pw_leafsay_k03_kinds_told.main.body.getD i (.Pass ⟨0, 0, 0, 0⟩)
abbrev s_qisnum : Stmt := top 19
abbrev s_qistext : Stmt := top 20
abbrev s_qisrow : Stmt := top 21
abbrev s_qiskind : Stmt := top 22
abbrev s_qpickedkind : Stmt := top 23
abbrev s_qmadekind : Stmt := top 24
abbrev s_qcellat : Stmt := top 26
abbrev s_qtext : Stmt := top 27
abbrev s_qrow : Stmt := top 28
abbrev s_qtexts : Stmt := top 29
abbrev s_qrows : Stmt := top 30
abbrev s_qnumbers : Stmt := top 31
abbrev s_qtold : Stmt := top 32
abbrev s_qneeded : Stmt := top 33
abbrev s_qkinds : Stmt := top 34
abbrev s_qdue : Stmt := top 35
abbrev s_qrefused : Stmt := top 36
abbrev s_qmade : Stmt := top 37
abbrev s_law : Stmt := top 38
theorem sc_qisnum : FnScope ["thing"] ["thing"] (defScope s_qisnum) := ⟨rfl, rfl, rfl, by decide +kernel, rfl, by decide +kernel, by decide +kernel⟩
theorem sc_qistext : FnScope ["thing"] ["thing"] (defScope s_qistext) := ⟨rfl, rfl, rfl, by decide +kernel, rfl, by decide +kernel, by decide +kernel⟩
theorem sc_qisrow : FnScope ["thing"] ["thing"] (defScope s_qisrow) := ⟨rfl, rfl, rfl, by decide +kernel, rfl, by decide +kernel, by decide +kernel⟩
theorem sc_qiskind : FnScope ["kind", "thing"] ["kind", "thing"] (defScope s_qiskind) := ⟨rfl, rfl, rfl, by decide +kernel, rfl, by decide +kernel, by decide +kernel⟩
theorem sc_qpickedkind : FnScope ["kinds"] ["kinds"] (defScope s_qpickedkind) := ⟨rfl, rfl, rfl, by decide +kernel, rfl, by decide +kernel, by decide +kernel⟩
theorem sc_qmadekind : FnScope ["deed", "kinds"] ["deed", "kinds"] (defScope s_qmadekind) := ⟨rfl, rfl, rfl, by decide +kernel, rfl, by decide +kernel, by decide +kernel⟩
theorem sc_qcellat : FnScope ["_law_script", "_law_k"] ["_law_script", "_law_k"] (defScope s_qcellat) := ⟨rfl, rfl, rfl, by decide +kernel, rfl, by decide +kernel, by decide +kernel⟩
theorem sc_qtext : FnScope ["_law_cell", "_law_signs", "_law_step"] ["_law_cell"] (defScope s_qtext) := ⟨rfl, rfl, rfl, by decide +kernel, rfl, by decide +kernel, by decide +kernel⟩
theorem sc_qrow : FnScope ["_law_cell"] ["_law_cell"] (defScope s_qrow) := ⟨rfl, rfl, rfl, by decide +kernel, rfl, by decide +kernel, by decide +kernel⟩
theorem sc_qtexts : FnScope ["_law_cell", "_law_good", "_law_at", "_law_found", "_law_odd"] ["_law_cell"] (defScope s_qtexts) := ⟨rfl, rfl, rfl, by decide +kernel, rfl, by decide +kernel, by decide +kernel⟩
theorem sc_qrows : FnScope ["_law_cell", "_law_good", "_law_at", "_law_found", "_law_odd"] ["_law_cell"] (defScope s_qrows) := ⟨rfl, rfl, rfl, by decide +kernel, rfl, by decide +kernel, by decide +kernel⟩
theorem sc_qnumbers : FnScope ["_law_cell", "_law_found"] ["_law_cell"] (defScope s_qnumbers) := ⟨rfl, rfl, rfl, by decide +kernel, rfl, by decide +kernel, by decide +kernel⟩
theorem sc_qtold : FnScope ["_law_thing", "_law_own", "_law_kind", "_law_found"] ["_law_thing", "_law_own"] (defScope s_qtold) := ⟨rfl, rfl, rfl, by decide +kernel, rfl, by decide +kernel, by decide +kernel⟩
theorem sc_qneeded : FnScope ["_law_word", "_law_rows_here", "_law_name", "_law_kinds_here"] ["_law_word"] (defScope s_qneeded) := ⟨rfl, rfl, rfl, by decide +kernel, rfl, by decide +kernel, by decide +kernel⟩
theorem sc_qkinds : FnScope ["_law_word", "_law_cell", "_law_some", "_law_due_here", "_law_at"] ["_law_word", "_law_cell"] (defScope s_qkinds) := ⟨rfl, rfl, rfl, by decide +kernel, rfl, by decide +kernel, by decide +kernel⟩
theorem sc_qdue : FnScope ["_law_word", "_law_kinds_here", "_law_needed_here"] ["_law_word", "_law_kinds_here"] (defScope s_qdue) := ⟨rfl, rfl, rfl, by decide +kernel, rfl, by decide +kernel, by decide +kernel⟩
theorem sc_qrefused : FnScope ["_law_word", "_law_kinds_here", "_law_own", "_law_others", "error"] ["_law_word", "_law_kinds_here"] (defScope s_qrefused) := ⟨rfl, rfl, rfl, by decide +kernel, rfl, by decide +kernel, by decide +kernel⟩
theorem sc_qmade : FnScope ["_law_word", "_law_kinds_here", "_law_due_here", "_law_handed", "_law_found"] ["_law_word", "_law_kinds_here"] (defScope s_qmade) := ⟨rfl, rfl, rfl, by decide +kernel, rfl, by decide +kernel, by decide +kernel⟩
theorem sc_law : FnScope ["_law_script", "_law_first", "_law_thing", "_law_own", "_law_words", "_law_cell", "_law_number", "_law_word"] ["_law_script"] (defScope s_law) := ⟨rfl, rfl, rfl, by decide +kernel, rfl, by decide +kernel, by decide +kernel⟩
structure Adr where
  qisnum : Addr
  d_qisnum : FuncData
  qistext : Addr
  d_qistext : FuncData
  qisrow : Addr
  d_qisrow : FuncData
  qiskind : Addr
  d_qiskind : FuncData
  qpickedkind : Addr
  d_qpickedkind : FuncData
  qmadekind : Addr
  d_qmadekind : FuncData
  qcellat : Addr
  d_qcellat : FuncData
  qtext : Addr
  d_qtext : FuncData
  qrow : Addr
  d_qrow : FuncData
  qtexts : Addr
  d_qtexts : FuncData
  qrows : Addr
  d_qrows : FuncData
  qnumbers : Addr
  d_qnumbers : FuncData
  qtold : Addr
  d_qtold : FuncData
  qneeded : Addr
  d_qneeded : FuncData
  qkinds : Addr
  d_qkinds : FuncData
  qdue : Addr
  d_qdue : FuncData
  qrefused : Addr
  d_qrefused : FuncData
  qmade : Addr
  d_qmade : FuncData
  law : Addr
  d_law : FuncData
  t_LIMIT : Tok
  t_MOST_SIGNS : Tok
  t_MOST_NUMS : Tok
  t_SIGNS : Tok
  k_LeafError : Addr
  k_NoText : Addr
  k_TooGreat : Addr
  k_NoName : Addr
  k_NoRule : Addr
  k_NoKind : Addr
  k_NoTree : Addr
  k_NoPlace : Addr
  k_NoGiven : Addr
  k_NoWalk : Addr
  k_Ring : Addr
  a_NEEDS : Addr
  NEEDS_0 : Addr
  NEEDS_1 : Addr
  NEEDS_2 : Addr
  NEEDS_3 : Addr
  NEEDS_4 : Addr
  NEEDS_5 : Addr
  NEEDS_6 : Addr
  NEEDS_7 : Addr
  NEEDS_8 : Addr
  NEEDS_9 : Addr
  NEEDS_10 : Addr
  a_MAKES : Addr
  MAKES_0 : Tok
  MAKES_1 : Tok
  MAKES_2 : Tok
  MAKES_3 : Tok
  MAKES_4 : Tok
  MAKES_5 : Tok
  MAKES_6 : Tok
  MAKES_7 : Tok
  MAKES_8 : Tok
  MAKES_9 : Tok
  MAKES_10 : Tok
structure Tx (K : PySem.W.Frag) (w : World) (mg : Str → Option Value) (T : Adr) : Prop where
  F_qisnum : Fun K "is_num" "is_num" s_qisnum T.qisnum T.d_qisnum
  b_qisnum : Binds K T.d_qisnum ["thing"] []
  m_qisnum : mg "is_num" = some (.ref T.qisnum)
  F_qistext : Fun K "is_text" "is_text" s_qistext T.qistext T.d_qistext
  b_qistext : Binds K T.d_qistext ["thing"] []
  m_qistext : mg "is_text" = some (.ref T.qistext)
  F_qisrow : Fun K "is_row" "is_row" s_qisrow T.qisrow T.d_qisrow
  b_qisrow : Binds K T.d_qisrow ["thing"] []
  m_qisrow : mg "is_row" = some (.ref T.qisrow)
  F_qiskind : Fun K "is_kind" "is_kind" s_qiskind T.qiskind T.d_qiskind
  b_qiskind : Binds K T.d_qiskind ["kind", "thing"] []
  m_qiskind : mg "is_kind" = some (.ref T.qiskind)
  F_qpickedkind : Fun K "picked_kind" "picked_kind" s_qpickedkind T.qpickedkind T.d_qpickedkind
  b_qpickedkind : Binds K T.d_qpickedkind ["kinds"] []
  m_qpickedkind : mg "picked_kind" = some (.ref T.qpickedkind)
  F_qmadekind : Fun K "made_kind" "made_kind" s_qmadekind T.qmadekind T.d_qmadekind
  b_qmadekind : Binds K T.d_qmadekind ["deed", "kinds"] []
  m_qmadekind : mg "made_kind" = some (.ref T.qmadekind)
  F_qcellat : Fun K "_law_cell_at" "_law_cell_at" s_qcellat T.qcellat T.d_qcellat
  b_qcellat : Binds K T.d_qcellat ["_law_script", "_law_k"] []
  m_qcellat : mg "_law_cell_at" = some (.ref T.qcellat)
  F_qtext : Fun K "_law_text" "_law_text" s_qtext T.qtext T.d_qtext
  b_qtext : Binds K T.d_qtext ["_law_cell"] []
  m_qtext : mg "_law_text" = some (.ref T.qtext)
  F_qrow : Fun K "_law_row" "_law_row" s_qrow T.qrow T.d_qrow
  b_qrow : Binds K T.d_qrow ["_law_cell"] []
  m_qrow : mg "_law_row" = some (.ref T.qrow)
  F_qtexts : Fun K "_law_texts" "_law_texts" s_qtexts T.qtexts T.d_qtexts
  b_qtexts : Binds K T.d_qtexts ["_law_cell"] []
  m_qtexts : mg "_law_texts" = some (.ref T.qtexts)
  F_qrows : Fun K "_law_rows" "_law_rows" s_qrows T.qrows T.d_qrows
  b_qrows : Binds K T.d_qrows ["_law_cell"] []
  m_qrows : mg "_law_rows" = some (.ref T.qrows)
  F_qnumbers : Fun K "_law_numbers" "_law_numbers" s_qnumbers T.qnumbers T.d_qnumbers
  b_qnumbers : Binds K T.d_qnumbers ["_law_cell"] []
  m_qnumbers : mg "_law_numbers" = some (.ref T.qnumbers)
  F_qtold : Fun K "_law_told" "_law_told" s_qtold T.qtold T.d_qtold
  b_qtold : Binds K T.d_qtold ["_law_thing", "_law_own"] []
  m_qtold : mg "_law_told" = some (.ref T.qtold)
  F_qneeded : Fun K "_law_needed" "_law_needed" s_qneeded T.qneeded T.d_qneeded
  b_qneeded : Binds K T.d_qneeded ["_law_word"] []
  m_qneeded : mg "_law_needed" = some (.ref T.qneeded)
  F_qkinds : Fun K "_law_kinds" "_law_kinds" s_qkinds T.qkinds T.d_qkinds
  b_qkinds : Binds K T.d_qkinds ["_law_word", "_law_cell"] []
  m_qkinds : mg "_law_kinds" = some (.ref T.qkinds)
  F_qdue : Fun K "_law_due" "_law_due" s_qdue T.qdue T.d_qdue
  b_qdue : Binds K T.d_qdue ["_law_word", "_law_kinds_here"] []
  m_qdue : mg "_law_due" = some (.ref T.qdue)
  F_qrefused : Fun K "_law_refused" "_law_refused" s_qrefused T.qrefused T.d_qrefused
  b_qrefused : Binds K T.d_qrefused ["_law_word", "_law_kinds_here"] []
  m_qrefused : mg "_law_refused" = some (.ref T.qrefused)
  F_qmade : Fun K "_law_made" "_law_made" s_qmade T.qmade T.d_qmade
  b_qmade : Binds K T.d_qmade ["_law_word", "_law_kinds_here"] []
  m_qmade : mg "_law_made" = some (.ref T.qmade)
  F_law : Fun K "law" "law" s_law T.law T.d_law
  b_law : Binds K T.d_law ["_law_script"] []
  m_law : mg "law" = some (.ref T.law)
  z_ValueError : mg "ValueError" = none
  z_all : mg "all" = none
  z_bool : mg "bool" = none
  z_int : mg "int" = none
  z_isinstance : mg "isinstance" = none
  z_len : mg "len" = none
  z_list : mg "list" = none
  z_range : mg "range" = none
  z_str : mg "str" = none
  z_tuple : mg "tuple" = none
  c_LIMIT : mg "LIMIT" = some (.int 1000000000000000000 T.t_LIMIT)
  c_MOST_SIGNS : mg "MOST_SIGNS" = some (.int 40 T.t_MOST_SIGNS)
  c_MOST_NUMS : mg "MOST_NUMS" = some (.int 12 T.t_MOST_NUMS)
  c_SIGNS : mg "SIGNS" = some (.str "abcdefghijklmnopqrstuvwxyz0123456789" T.t_SIGNS)
  m_LeafError : mg "LeafError" = some (.ref T.k_LeafError)
  e_LeafError : ExcC K T.k_LeafError
  m_NoText : mg "NoText" = some (.ref T.k_NoText)
  m_TooGreat : mg "TooGreat" = some (.ref T.k_TooGreat)
  m_NoName : mg "NoName" = some (.ref T.k_NoName)
  m_NoRule : mg "NoRule" = some (.ref T.k_NoRule)
  m_NoKind : mg "NoKind" = some (.ref T.k_NoKind)
  e_NoKind : ExcC K T.k_NoKind
  x_NoKind : XCls K T.k_NoKind
  u_NoKind_LeafError : PySem.W.mroIn K T.k_NoKind (.ref T.k_LeafError) = some true
  i_NoKind_0 : PySem.W.kitOne K (.ref T.k_NoKind) (.ref T.k_NoKind) = some true
  i_NoKind_1 : PySem.W.kitOne K (.ref T.k_NoKind) (.type "ValueError") = some true
  i_NoKind_2 : PySem.W.kitAny K (.ref T.k_NoKind) [.ref T.k_NoText, .ref T.k_TooGreat, .ref T.k_NoName, .ref T.k_NoRule, .ref T.k_NoTree, .ref T.k_NoPlace, .ref T.k_NoGiven, .ref T.k_NoWalk, .ref T.k_Ring] = some false
  m_NoTree : mg "NoTree" = some (.ref T.k_NoTree)
  m_NoPlace : mg "NoPlace" = some (.ref T.k_NoPlace)
  m_NoGiven : mg "NoGiven" = some (.ref T.k_NoGiven)
  m_NoWalk : mg "NoWalk" = some (.ref T.k_NoWalk)
  m_Ring : mg "Ring" = some (.ref T.k_Ring)
  c_NEEDS : mg "NEEDS" = some (.ref T.a_NEEDS)
  d_NEEDS : TDict K w T.a_NEEDS [(("add" : Str), Value.ref T.NEEDS_0), (("sub" : Str), Value.ref T.NEEDS_1), (("mul" : Str), Value.ref T.NEEDS_2), (("less" : Str), Value.ref T.NEEDS_3), (("glue" : Str), Value.ref T.NEEDS_4), (("show" : Str), Value.ref T.NEEDS_5), (("size" : Str), Value.ref T.NEEDS_6), (("put" : Str), Value.ref T.NEEDS_7), (("link" : Str), Value.ref T.NEEDS_8), (("at" : Str), Value.ref T.NEEDS_9), (("many" : Str), Value.ref T.NEEDS_10)]
  y_NEEDS : (T.a_NEEDS == sysModules) = false
  q_NEEDS_0 : ∀ H, SqT K H T.NEEDS_0 [V.str "num", V.str "num"]
  q_NEEDS_1 : ∀ H, SqT K H T.NEEDS_1 [V.str "num", V.str "num"]
  q_NEEDS_2 : ∀ H, SqT K H T.NEEDS_2 [V.str "num", V.str "num"]
  q_NEEDS_3 : ∀ H, SqT K H T.NEEDS_3 [V.str "num", V.str "num"]
  q_NEEDS_4 : ∀ H, SqT K H T.NEEDS_4 [V.str "text", V.str "text"]
  q_NEEDS_5 : ∀ H, SqT K H T.NEEDS_5 [V.str "num"]
  q_NEEDS_6 : ∀ H, SqT K H T.NEEDS_6 [V.str "text"]
  q_NEEDS_7 : ∀ H, SqT K H T.NEEDS_7 [V.str "row", V.str "num"]
  q_NEEDS_8 : ∀ H, SqT K H T.NEEDS_8 [V.str "row", V.str "row"]
  q_NEEDS_9 : ∀ H, SqT K H T.NEEDS_9 [V.str "row", V.str "num"]
  q_NEEDS_10 : ∀ H, SqT K H T.NEEDS_10 [V.str "row"]
  c_MAKES : mg "MAKES" = some (.ref T.a_MAKES)
  d_MAKES : TDict K w T.a_MAKES [(("add" : Str), Value.str "num" T.MAKES_0), (("sub" : Str), Value.str "num" T.MAKES_1), (("mul" : Str), Value.str "num" T.MAKES_2), (("less" : Str), Value.str "num" T.MAKES_3), (("glue" : Str), Value.str "text" T.MAKES_4), (("show" : Str), Value.str "text" T.MAKES_5), (("size" : Str), Value.str "num" T.MAKES_6), (("put" : Str), Value.str "row" T.MAKES_7), (("link" : Str), Value.str "row" T.MAKES_8), (("at" : Str), Value.str "num" T.MAKES_9), (("many" : Str), Value.str "num" T.MAKES_10)]
  y_MAKES : (T.a_MAKES == sysModules) = false
theorem tx_mk {K : PySem.W.Frag} {w : World} {h : Heap} {mg : Str → Option Value} (X : K.In h) (G : h.Ns mainGlobals mg) {f0 f1 f2 f3 f4 f5 f6 f7 f8 f9 f10 f11 f12 f13 f14 f15 f16 f17 f18 : Addr} {od0 an0 od1 an1 od2 an2 od3 an3 od4 an4 od5 an5 od6 an6 od7 an7 od8 an8 od9 an9 od10 an10 od11 an11 od12 an12 od13 an13 od14 an14 od15 an15 od16 an16 od17 an17 od18 an18 : Option Addr} {sl0 sl1 sl2 sl3 sl4 sl5 sl6 sl7 sl8 sl9 sl10 sl11 sl12 sl13 sl14 sl15 sl16 sl17 sl18 : Array (Option Value)}
    {oc0 kV0 dc0 pm0 cd0 ct0 oc1 kV1 dc1 pm1 cd1 ct1 oc2 kV2 dc2 pm2 cd2 ct2 oc3 kV3 dc3 pm3 cd3 ct3 oc4 kV4 dc4 pm4 cd4 ct4 oc5 kV5 dc5 pm5 cd5 ct5 oc6 kV6 dc6 pm6 cd6 ct6 oc7 kV7 dc7 pm7 cd7 ct7 oc8 kV8 dc8 pm8 cd8 ct8 oc9 kV9 dc9 pm9 cd9 ct9 oc10 kV10 dc10 pm10 cd10 ct10 oc11 kV11 dc11 pm11 cd11 ct11 oc12 kV12 dc12 pm12 cd12 ct12 oc13 kV13 dc13 pm13 cd13 ct13 oc14 kV14 dc14 pm14 cd14 ct14 oc15 kV15 dc15 pm15 cd15 ct15 oc16 kV16 dc16 pm16 cd16 ct16 oc17 kV17 dc17 pm17 cd17 ct17 oc18 kV18 dc18 pm18 cd18 ct18 : Value} {t_LIMIT t_MOST_SIGNS t_MOST_NUMS t_SIGNS : Tok}
    (a0 : PySem.W.nsIn K mainGlobals "is_num" = some (some (.ref f0))) (l0 : K.lookup f0 = some ⟨oc0, od0, .func (PySem.W.fnOf "is_num" "is_num" (defArgs s_qisnum) (defBody s_qisnum) (defScope s_qisnum) .none kV0 dc0 pm0 an0 cd0 ct0), sl0⟩) (c0 : PySem.W.codeIn K cd0 "is_num" = true) (k0 : PySem.W.keepIn K (.ref f0) = true)
    (a1 : PySem.W.nsIn K mainGlobals "is_text" = some (some (.ref f1))) (l1 : K.lookup f1 = some ⟨oc1, od1, .func (PySem.W.fnOf "is_text" "is_text" (defArgs s_qistext) (defBody s_qistext) (defScope s_qistext) .none kV1 dc1 pm1 an1 cd1 ct1), sl1⟩) (c1 : PySem.W.codeIn K cd1 "is_text" = true) (k1 : PySem.W.keepIn K (.ref f1) = true)
    (a2 : PySem.W.nsIn K mainGlobals "is_row" = some (some (.ref f2))) (l2 : K.lookup f2 = some ⟨oc2, od2, .func (PySem.W.fnOf "is_row" "is_row" (defArgs s_qisrow) (defBody s_qisrow) (defScope s_qisrow) .none kV2 dc2 pm2 an2 cd2 ct2), sl2⟩) (c2 : PySem.W.codeIn K cd2 "is_row" = true) (k2 : PySem.W.keepIn K (.ref f2) = true)
    (a3 : PySem.W.nsIn K mainGlobals "is_kind" = some (some (.ref f3))) (l3 : K.lookup f3 = some ⟨oc3, od3, .func (PySem.W.fnOf "is_kind" "is_kind" (defArgs s_qiskind) (defBody s_qiskind) (defScope s_qiskind) .none kV3 dc3 pm3 an3 cd3 ct3), sl3⟩) (c3 : PySem.W.codeIn K cd3 "is_kind" = true) (k3 : PySem.W.keepIn K (.ref f3) = true)
    (a4 : PySem.W.nsIn K mainGlobals "picked_kind" = some (some (.ref f4))) (l4 : K.lookup f4 = some ⟨oc4, od4, .func (PySem.W.fnOf "picked_kind" "picked_kind" (defArgs s_qpickedkind) (defBody s_qpickedkind) (defScope s_qpickedkind) .none kV4 dc4 pm4 an4 cd4 ct4), sl4⟩) (c4 : PySem.W.codeIn K cd4 "picked_kind" = true) (k4 : PySem.W.keepIn K (.ref f4) = true)
    (a5 : PySem.W.nsIn K mainGlobals "made_kind" = some (some (.ref f5))) (l5 : K.lookup f5 = some ⟨oc5, od5, .func (PySem.W.fnOf "made_kind" "made_kind" (defArgs s_qmadekind) (defBody s_qmadekind) (defScope s_qmadekind) .none kV5 dc5 pm5 an5 cd5 ct5), sl5⟩) (c5 : PySem.W.codeIn K cd5 "made_kind" = true) (k5 : PySem.W.keepIn K (.ref f5) = true)
    (a6 : PySem.W.nsIn K mainGlobals "_law_cell_at" = some (some (.ref f6))) (l6 : K.lookup f6 = some ⟨oc6, od6, .func (PySem.W.fnOf "_law_cell_at" "_law_cell_at" (defArgs s_qcellat) (defBody s_qcellat) (defScope s_qcellat) .none kV6 dc6 pm6 an6 cd6 ct6), sl6⟩) (c6 : PySem.W.codeIn K cd6 "_law_cell_at" = true) (k6 : PySem.W.keepIn K (.ref f6) = true)
    (a7 : PySem.W.nsIn K mainGlobals "_law_text" = some (some (.ref f7))) (l7 : K.lookup f7 = some ⟨oc7, od7, .func (PySem.W.fnOf "_law_text" "_law_text" (defArgs s_qtext) (defBody s_qtext) (defScope s_qtext) .none kV7 dc7 pm7 an7 cd7 ct7), sl7⟩) (c7 : PySem.W.codeIn K cd7 "_law_text" = true) (k7 : PySem.W.keepIn K (.ref f7) = true)
    (a8 : PySem.W.nsIn K mainGlobals "_law_row" = some (some (.ref f8))) (l8 : K.lookup f8 = some ⟨oc8, od8, .func (PySem.W.fnOf "_law_row" "_law_row" (defArgs s_qrow) (defBody s_qrow) (defScope s_qrow) .none kV8 dc8 pm8 an8 cd8 ct8), sl8⟩) (c8 : PySem.W.codeIn K cd8 "_law_row" = true) (k8 : PySem.W.keepIn K (.ref f8) = true)
    (a9 : PySem.W.nsIn K mainGlobals "_law_texts" = some (some (.ref f9))) (l9 : K.lookup f9 = some ⟨oc9, od9, .func (PySem.W.fnOf "_law_texts" "_law_texts" (defArgs s_qtexts) (defBody s_qtexts) (defScope s_qtexts) .none kV9 dc9 pm9 an9 cd9 ct9), sl9⟩) (c9 : PySem.W.codeIn K cd9 "_law_texts" = true) (k9 : PySem.W.keepIn K (.ref f9) = true)
    (a10 : PySem.W.nsIn K mainGlobals "_law_rows" = some (some (.ref f10))) (l10 : K.lookup f10 = some ⟨oc10, od10, .func (PySem.W.fnOf "_law_rows" "_law_rows" (defArgs s_qrows) (defBody s_qrows) (defScope s_qrows) .none kV10 dc10 pm10 an10 cd10 ct10), sl10⟩) (c10 : PySem.W.codeIn K cd10 "_law_rows" = true) (k10 : PySem.W.keepIn K (.ref f10) = true)
    (a11 : PySem.W.nsIn K mainGlobals "_law_numbers" = some (some (.ref f11))) (l11 : K.lookup f11 = some ⟨oc11, od11, .func (PySem.W.fnOf "_law_numbers" "_law_numbers" (defArgs s_qnumbers) (defBody s_qnumbers) (defScope s_qnumbers) .none kV11 dc11 pm11 an11 cd11 ct11), sl11⟩) (c11 : PySem.W.codeIn K cd11 "_law_numbers" = true) (k11 : PySem.W.keepIn K (.ref f11) = true)
    (a12 : PySem.W.nsIn K mainGlobals "_law_told" = some (some (.ref f12))) (l12 : K.lookup f12 = some ⟨oc12, od12, .func (PySem.W.fnOf "_law_told" "_law_told" (defArgs s_qtold) (defBody s_qtold) (defScope s_qtold) .none kV12 dc12 pm12 an12 cd12 ct12), sl12⟩) (c12 : PySem.W.codeIn K cd12 "_law_told" = true) (k12 : PySem.W.keepIn K (.ref f12) = true)
    (a13 : PySem.W.nsIn K mainGlobals "_law_needed" = some (some (.ref f13))) (l13 : K.lookup f13 = some ⟨oc13, od13, .func (PySem.W.fnOf "_law_needed" "_law_needed" (defArgs s_qneeded) (defBody s_qneeded) (defScope s_qneeded) .none kV13 dc13 pm13 an13 cd13 ct13), sl13⟩) (c13 : PySem.W.codeIn K cd13 "_law_needed" = true) (k13 : PySem.W.keepIn K (.ref f13) = true)
    (a14 : PySem.W.nsIn K mainGlobals "_law_kinds" = some (some (.ref f14))) (l14 : K.lookup f14 = some ⟨oc14, od14, .func (PySem.W.fnOf "_law_kinds" "_law_kinds" (defArgs s_qkinds) (defBody s_qkinds) (defScope s_qkinds) .none kV14 dc14 pm14 an14 cd14 ct14), sl14⟩) (c14 : PySem.W.codeIn K cd14 "_law_kinds" = true) (k14 : PySem.W.keepIn K (.ref f14) = true)
    (a15 : PySem.W.nsIn K mainGlobals "_law_due" = some (some (.ref f15))) (l15 : K.lookup f15 = some ⟨oc15, od15, .func (PySem.W.fnOf "_law_due" "_law_due" (defArgs s_qdue) (defBody s_qdue) (defScope s_qdue) .none kV15 dc15 pm15 an15 cd15 ct15), sl15⟩) (c15 : PySem.W.codeIn K cd15 "_law_due" = true) (k15 : PySem.W.keepIn K (.ref f15) = true)
    (a16 : PySem.W.nsIn K mainGlobals "_law_refused" = some (some (.ref f16))) (l16 : K.lookup f16 = some ⟨oc16, od16, .func (PySem.W.fnOf "_law_refused" "_law_refused" (defArgs s_qrefused) (defBody s_qrefused) (defScope s_qrefused) .none kV16 dc16 pm16 an16 cd16 ct16), sl16⟩) (c16 : PySem.W.codeIn K cd16 "_law_refused" = true) (k16 : PySem.W.keepIn K (.ref f16) = true)
    (a17 : PySem.W.nsIn K mainGlobals "_law_made" = some (some (.ref f17))) (l17 : K.lookup f17 = some ⟨oc17, od17, .func (PySem.W.fnOf "_law_made" "_law_made" (defArgs s_qmade) (defBody s_qmade) (defScope s_qmade) .none kV17 dc17 pm17 an17 cd17 ct17), sl17⟩) (c17 : PySem.W.codeIn K cd17 "_law_made" = true) (k17 : PySem.W.keepIn K (.ref f17) = true)
    (a18 : PySem.W.nsIn K mainGlobals "law" = some (some (.ref f18))) (l18 : K.lookup f18 = some ⟨oc18, od18, .func (PySem.W.fnOf "law" "law" (defArgs s_law) (defBody s_law) (defScope s_law) .none kV18 dc18 pm18 an18 cd18 ct18), sl18⟩) (c18 : PySem.W.codeIn K cd18 "law" = true) (k18 : PySem.W.keepIn K (.ref f18) = true)
    (z_ValueError : PySem.W.nsIn K mainGlobals "ValueError" = some none)
    (z_all : PySem.W.nsIn K mainGlobals "all" = some none)
    (z_bool : PySem.W.nsIn K mainGlobals "bool" = some none)
    (z_int : PySem.W.nsIn K mainGlobals "int" = some none)
    (z_isinstance : PySem.W.nsIn K mainGlobals "isinstance" = some none)
    (z_len : PySem.W.nsIn K mainGlobals "len" = some none)
    (z_list : PySem.W.nsIn K mainGlobals "list" = some none)
    (z_range : PySem.W.nsIn K mainGlobals "range" = some none)
    (z_str : PySem.W.nsIn K mainGlobals "str" = some none)
    (z_tuple : PySem.W.nsIn K mainGlobals "tuple" = some none)
    (c_LIMIT : PySem.W.nsIn K mainGlobals "LIMIT" = some (some (.int 1000000000000000000 t_LIMIT)))
    (c_MOST_SIGNS : PySem.W.nsIn K mainGlobals "MOST_SIGNS" = some (some (.int 40 t_MOST_SIGNS)))
    (c_MOST_NUMS : PySem.W.nsIn K mainGlobals "MOST_NUMS" = some (some (.int 12 t_MOST_NUMS)))
    (c_SIGNS : PySem.W.nsIn K mainGlobals "SIGNS" = some (some (.str "abcdefghijklmnopqrstuvwxyz0123456789" t_SIGNS)))
    {k_LeafError k_NoText k_TooGreat k_NoName k_NoRule k_NoKind k_NoTree k_NoPlace k_NoGiven k_NoWalk k_Ring : Addr}
    (m_LeafError : PySem.W.nsIn K mainGlobals "LeafError" = some (some (.ref k_LeafError)))
    (m_NoText : PySem.W.nsIn K mainGlobals "NoText" = some (some (.ref k_NoText)))
    (m_TooGreat : PySem.W.nsIn K mainGlobals "TooGreat" = some (some (.ref k_TooGreat)))
    (m_NoName : PySem.W.nsIn K mainGlobals "NoName" = some (some (.ref k_NoName)))
    (m_NoRule : PySem.W.nsIn K mainGlobals "NoRule" = some (some (.ref k_NoRule)))
    (m_NoKind : PySem.W.nsIn K mainGlobals "NoKind" = some (some (.ref k_NoKind)))
    (m_NoTree : PySem.W.nsIn K mainGlobals "NoTree" = some (some (.ref k_NoTree)))
    (m_NoPlace : PySem.W.nsIn K mainGlobals "NoPlace" = some (some (.ref k_NoPlace)))
    (m_NoGiven : PySem.W.nsIn K mainGlobals "NoGiven" = some (some (.ref k_NoGiven)))
    (m_NoWalk : PySem.W.nsIn K mainGlobals "NoWalk" = some (some (.ref k_NoWalk)))
    (m_Ring : PySem.W.nsIn K mainGlobals "Ring" = some (some (.ref k_Ring)))
    (e_LeafError : PySem.W.excIn K k_LeafError vbm "ValueError.__new__" = true)
    (e_NoKind : PySem.W.excIn K k_NoKind vbm "ValueError.__new__" = true)
    (xga_NoKind : PySem.W.findIn K (.ref k_NoKind) "__getattribute__" = some (some (.builtin "BaseException.__getattribute__")))
    (xgt_NoKind : PySem.W.findIn K (.ref k_NoKind) "__getattr__" = some none)
    (xca_NoKind : PySem.W.findIn K (.ref k_NoKind) "__class__" = some (some (.builtin "object.__class__")))
    (xsp_NoKind : PySem.W.specialIn K (.builtin "object.__class__") "__get__" = some (some (.builtin "getset_descriptor.__get__")))
    (xtk_NoKind : PySem.W.takesIn K (.builtin "object.__class__") = some true)
    (xmo_NoKind : PySem.W.mroIn K k_NoKind (.type "object") = some true)
    (xmb_NoKind : PySem.W.mroIn K k_NoKind (.type "BaseException") = some true)
    (u_NoKind_LeafError : PySem.W.mroIn K k_NoKind (.ref k_LeafError) = some true)
    (i_NoKind_0 : PySem.W.kitOne K (.ref k_NoKind) (.ref k_NoKind) = some true)
    (i_NoKind_1 : PySem.W.kitOne K (.ref k_NoKind) (.type "ValueError") = some true)
    (i_NoKind_2 : PySem.W.kitAny K (.ref k_NoKind) [.ref k_NoText, .ref k_TooGreat, .ref k_NoName, .ref k_NoRule, .ref k_NoTree, .ref k_NoPlace, .ref k_NoGiven, .ref k_NoWalk, .ref k_Ring] = some false)
    {a_NEEDS : Addr} {es_NEEDS : List DictEntry} {n_NEEDS : Nat} {NEEDS_0 : Addr} {NEEDS_1 : Addr} {NEEDS_2 : Addr} {NEEDS_3 : Addr} {NEEDS_4 : Addr} {NEEDS_5 : Addr} {NEEDS_6 : Addr} {NEEDS_7 : Addr} {NEEDS_8 : Addr} {NEEDS_9 : Addr} {NEEDS_10 : Addr}
    (c_NEEDS : PySem.W.nsIn K mainGlobals "NEEDS" = some (some (.ref a_NEEDS))) (dl_NEEDS : K.lookup a_NEEDS = some ⟨.type "dict", none, .dict es_NEEDS.toArray n_NEEDS, #[]⟩)
    (dk_NEEDS : PySem.W.KeysLit w.params es_NEEDS) (dv_NEEDS : topKvs es_NEEDS = [(("add" : Str), Value.ref NEEDS_0), (("sub" : Str), Value.ref NEEDS_1), (("mul" : Str), Value.ref NEEDS_2), (("less" : Str), Value.ref NEEDS_3), (("glue" : Str), Value.ref NEEDS_4), (("show" : Str), Value.ref NEEDS_5), (("size" : Str), Value.ref NEEDS_6), (("put" : Str), Value.ref NEEDS_7), (("link" : Str), Value.ref NEEDS_8), (("at" : Str), Value.ref NEEDS_9), (("many" : Str), Value.ref NEEDS_10)]) (y_NEEDS : (a_NEEDS == sysModules) = false)
    {dd_NEEDS_0 : Option Addr} {m_NEEDS_0 : Nat} {sl_NEEDS_0 : Array (Option Value)} {t_NEEDS_0_0 t_NEEDS_0_1 : Tok}
    (q_NEEDS_0 : K.lookup NEEDS_0 = some ⟨.type "tuple", dd_NEEDS_0, .seq #[.str "num" t_NEEDS_0_0, .str "num" t_NEEDS_0_1] m_NEEDS_0, sl_NEEDS_0⟩)
    {dd_NEEDS_1 : Option Addr} {m_NEEDS_1 : Nat} {sl_NEEDS_1 : Array (Option Value)} {t_NEEDS_1_0 t_NEEDS_1_1 : Tok}
    (q_NEEDS_1 : K.lookup NEEDS_1 = some ⟨.type "tuple", dd_NEEDS_1, .seq #[.str "num" t_NEEDS_1_0, .str "num" t_NEEDS_1_1] m_NEEDS_1, sl_NEEDS_1⟩)
    {dd_NEEDS_2 : Option Addr} {m_NEEDS_2 : Nat} {sl_NEEDS_2 : Array (Option Value)} {t_NEEDS_2_0 t_NEEDS_2_1 : Tok}
    (q_NEEDS_2 : K.lookup NEEDS_2 = some ⟨.type "tuple", dd_NEEDS_2, .seq #[.str "num" t_NEEDS_2_0, .str "num" t_NEEDS_2_1] m_NEEDS_2, sl_NEEDS_2⟩)
    {dd_NEEDS_3 : Option Addr} {m_NEEDS_3 : Nat} {sl_NEEDS_3 : Array (Option Value)} {t_NEEDS_3_0 t_NEEDS_3_1 : Tok}
    (q_NEEDS_3 : K.lookup NEEDS_3 = some ⟨.type "tuple", dd_NEEDS_3, .seq #[.str "num" t_NEEDS_3_0, .str "num" t_NEEDS_3_1] m_NEEDS_3, sl_NEEDS_3⟩)
    {dd_NEEDS_4 : Option Addr} {m_NEEDS_4 : Nat} {sl_NEEDS_4 : Array (Option Value)} {t_NEEDS_4_0 t_NEEDS_4_1 : Tok}
    (q_NEEDS_4 : K.lookup NEEDS_4 = some ⟨.type "tuple", dd_NEEDS_4, .seq #[.str "text" t_NEEDS_4_0, .str "text" t_NEEDS_4_1] m_NEEDS_4, sl_NEEDS_4⟩)
    {dd_NEEDS_5 : Option Addr} {m_NEEDS_5 : Nat} {sl_NEEDS_5 : Array (Option Value)} {t_NEEDS_5_0 : Tok}
    (q_NEEDS_5 : K.lookup NEEDS_5 = some ⟨.type "tuple", dd_NEEDS_5, .seq #[.str "num" t_NEEDS_5_0] m_NEEDS_5, sl_NEEDS_5⟩)
    {dd_NEEDS_6 : Option Addr} {m_NEEDS_6 : Nat} {sl_NEEDS_6 : Array (Option Value)} {t_NEEDS_6_0 : Tok}
    (q_NEEDS_6 : K.lookup NEEDS_6 = some ⟨.type "tuple", dd_NEEDS_6, .seq #[.str "text" t_NEEDS_6_0] m_NEEDS_6, sl_NEEDS_6⟩)
    {dd_NEEDS_7 : Option Addr} {m_NEEDS_7 : Nat} {sl_NEEDS_7 : Array (Option Value)} {t_NEEDS_7_0 t_NEEDS_7_1 : Tok}
    (q_NEEDS_7 : K.lookup NEEDS_7 = some ⟨.type "tuple", dd_NEEDS_7, .seq #[.str "row" t_NEEDS_7_0, .str "num" t_NEEDS_7_1] m_NEEDS_7, sl_NEEDS_7⟩)
    {dd_NEEDS_8 : Option Addr} {m_NEEDS_8 : Nat} {sl_NEEDS_8 : Array (Option Value)} {t_NEEDS_8_0 t_NEEDS_8_1 : Tok}
    (q_NEEDS_8 : K.lookup NEEDS_8 = some ⟨.type "tuple", dd_NEEDS_8, .seq #[.str "row" t_NEEDS_8_0, .str "row" t_NEEDS_8_1] m_NEEDS_8, sl_NEEDS_8⟩)
    {dd_NEEDS_9 : Option Addr} {m_NEEDS_9 : Nat} {sl_NEEDS_9 : Array (Option Value)} {t_NEEDS_9_0 t_NEEDS_9_1 : Tok}
    (q_NEEDS_9 : K.lookup NEEDS_9 = some ⟨.type "tuple", dd_NEEDS_9, .seq #[.str "row" t_NEEDS_9_0, .str "num" t_NEEDS_9_1] m_NEEDS_9, sl_NEEDS_9⟩)
    {dd_NEEDS_10 : Option Addr} {m_NEEDS_10 : Nat} {sl_NEEDS_10 : Array (Option Value)} {t_NEEDS_10_0 : Tok}
    (q_NEEDS_10 : K.lookup NEEDS_10 = some ⟨.type "tuple", dd_NEEDS_10, .seq #[.str "row" t_NEEDS_10_0] m_NEEDS_10, sl_NEEDS_10⟩)
    {a_MAKES : Addr} {es_MAKES : List DictEntry} {n_MAKES : Nat} {MAKES_0 : Tok} {MAKES_1 : Tok} {MAKES_2 : Tok} {MAKES_3 : Tok} {MAKES_4 : Tok} {MAKES_5 : Tok} {MAKES_6 : Tok} {MAKES_7 : Tok} {MAKES_8 : Tok} {MAKES_9 : Tok} {MAKES_10 : Tok}
    (c_MAKES : PySem.W.nsIn K mainGlobals "MAKES" = some (some (.ref a_MAKES))) (dl_MAKES : K.lookup a_MAKES = some ⟨.type "dict", none, .dict es_MAKES.toArray n_MAKES, #[]⟩)
    (dk_MAKES : PySem.W.KeysLit w.params es_MAKES) (dv_MAKES : topKvs es_MAKES = [(("add" : Str), Value.str "num" MAKES_0), (("sub" : Str), Value.str "num" MAKES_1), (("mul" : Str), Value.str "num" MAKES_2), (("less" : Str), Value.str "num" MAKES_3), (("glue" : Str), Value.str "text" MAKES_4), (("show" : Str), Value.str "text" MAKES_5), (("size" : Str), Value.str "num" MAKES_6), (("put" : Str), Value.str "row" MAKES_7), (("link" : Str), Value.str "row" MAKES_8), (("at" : Str), Value.str "num" MAKES_9), (("many" : Str), Value.str "num" MAKES_10)]) (y_MAKES : (a_MAKES == sysModules) = false)
    : ∃ T : Adr, Tx K w mg T := by
  have F0 := fun_mk (st := s_qisnum) l0 c0 k0
  have F1 := fun_mk (st := s_qistext) l1 c1 k1
  have F2 := fun_mk (st := s_qisrow) l2 c2 k2
  have F3 := fun_mk (st := s_qiskind) l3 c3 k3
  have F4 := fun_mk (st := s_qpickedkind) l4 c4 k4
  have F5 := fun_mk (st := s_qmadekind) l5 c5 k5
  have F6 := fun_mk (st := s_qcellat) l6 c6 k6
  have F7 := fun_mk (st := s_qtext) l7 c7 k7
  have F8 := fun_mk (st := s_qrow) l8 c8 k8
  have F9 := fun_mk (st := s_qtexts) l9 c9 k9
  have F10 := fun_mk (st := s_qrows) l10 c10 k10
  have F11 := fun_mk (st := s_qnumbers) l11 c11 k11
  have F12 := fun_mk (st := s_qtold) l12 c12 k12
  have F13 := fun_mk (st := s_qneeded) l13 c13 k13
  have F14 := fun_mk (st := s_qkinds) l14 c14 k14
  have F15 := fun_mk (st := s_qdue) l15 c15 k15
  have F16 := fun_mk (st := s_qrefused) l16 c16 k16
  have F17 := fun_mk (st := s_qmade) l17 c17 k17
  have F18 := fun_mk (st := s_law) l18 c18 k18
  exact ⟨⟨f0, _, f1, _, f2, _, f3, _, f4, _, f5, _, f6, _, f7, _, f8, _, f9, _, f10, _, f11, _, f12, _, f13, _, f14, _, f15, _, f16, _, f17, _, f18, _, t_LIMIT, t_MOST_SIGNS, t_MOST_NUMS, t_SIGNS, k_LeafError, k_NoText, k_TooGreat, k_NoName, k_NoRule, k_NoKind, k_NoTree, k_NoPlace, k_NoGiven, k_NoWalk, k_Ring, a_NEEDS, NEEDS_0, NEEDS_1, NEEDS_2, NEEDS_3, NEEDS_4, NEEDS_5, NEEDS_6, NEEDS_7, NEEDS_8, NEEDS_9, NEEDS_10, a_MAKES, MAKES_0, MAKES_1, MAKES_2, MAKES_3, MAKES_4, MAKES_5, MAKES_6, MAKES_7, MAKES_8, MAKES_9, MAKES_10⟩, ⟨F0, F0.binds (ps := ["thing"]) (fun _ _ _ _ _ _ us hl => match us, hl with | [_], _ => rfl), PySem.W.mg_of X G a0, F1, F1.binds (ps := ["thing"]) (fun _ _ _ _ _ _ us hl => match us, hl with | [_], _ => rfl), PySem.W.mg_of X G a1, F2, F2.binds (ps := ["thing"]) (fun _ _ _ _ _ _ us hl => match us, hl with | [_], _ => rfl), PySem.W.mg_of X G a2, F3, F3.binds (ps := ["kind", "thing"]) (fun _ _ _ _ _ _ us hl => match us, hl with | [_, _], _ => rfl), PySem.W.mg_of X G a3, F4, F4.binds (ps := ["kinds"]) (fun _ _ _ _ _ _ us hl => match us, hl with | [_], _ => rfl), PySem.W.mg_of X G a4, F5, F5.binds (ps := ["deed", "kinds"]) (fun _ _ _ _ _ _ us hl => match us, hl with | [_, _], _ => rfl), PySem.W.mg_of X G a5, F6, F6.binds (ps := ["_law_script", "_law_k"]) (fun _ _ _ _ _ _ us hl => match us, hl with | [_, _], _ => rfl), PySem.W.mg_of X G a6, F7, F7.binds (ps := ["_law_cell"]) (fun _ _ _ _ _ _ us hl => match us, hl with | [_], _ => rfl), PySem.W.mg_of X G a7, F8, F8.binds (ps := ["_law_cell"]) (fun _ _ _ _ _ _ us hl => match us, hl with | [_], _ => rfl), PySem.W.mg_of X G a8, F9, F9.binds (ps := ["_law_cell"]) (fun _ _ _ _ _ _ us hl => match us, hl with | [_], _ => rfl), PySem.W.mg_of X G a9, F10, F10.binds (ps := ["_law_cell"]) (fun _ _ _ _ _ _ us hl => match us, hl with | [_], _ => rfl), PySem.W.mg_of X G a10, F11, F11.binds (ps := ["_law_cell"]) (fun _ _ _ _ _ _ us hl => match us, hl with | [_], _ => rfl), PySem.W.mg_of X G a11, F12, F12.binds (ps := ["_law_thing", "_law_own"]) (fun _ _ _ _ _ _ us hl => match us, hl with | [_, _], _ => rfl), PySem.W.mg_of X G a12, F13, F13.binds (ps := ["_law_word"]) (fun _ _ _ _ _ _ us hl => match us, hl with | [_], _ => rfl), PySem.W.mg_of X G a13, F14, F14.binds (ps := ["_law_word", "_law_cell"]) (fun _ _ _ _ _ _ us hl => match us, hl with | [_, _], _ => rfl), PySem.W.mg_of X G a14, F15, F15.binds (ps := ["_law_word", "_law_kinds_here"]) (fun _ _ _ _ _ _ us hl => match us, hl with | [_, _], _ => rfl), PySem.W.mg_of X G a15, F16, F16.binds (ps := ["_law_word", "_law_kinds_here"]) (fun _ _ _ _ _ _ us hl => match us, hl with | [_, _], _ => rfl), PySem.W.mg_of X G a16, F17, F17.binds (ps := ["_law_word", "_law_kinds_here"]) (fun _ _ _ _ _ _ us hl => match us, hl with | [_, _], _ => rfl), PySem.W.mg_of X G a17, F18, F18.binds (ps := ["_law_script"]) (fun _ _ _ _ _ _ us hl => match us, hl with | [_], _ => rfl), PySem.W.mg_of X G a18, PySem.W.mg_none_of X G z_ValueError, PySem.W.mg_none_of X G z_all, PySem.W.mg_none_of X G z_bool, PySem.W.mg_none_of X G z_int, PySem.W.mg_none_of X G z_isinstance, PySem.W.mg_none_of X G z_len, PySem.W.mg_none_of X G z_list, PySem.W.mg_none_of X G z_range, PySem.W.mg_none_of X G z_str, PySem.W.mg_none_of X G z_tuple, PySem.W.mg_of X G c_LIMIT, PySem.W.mg_of X G c_MOST_SIGNS, PySem.W.mg_of X G c_MOST_NUMS, PySem.W.mg_of X G c_SIGNS, PySem.W.mg_of X G m_LeafError, e_LeafError, PySem.W.mg_of X G m_NoText, PySem.W.mg_of X G m_TooGreat, PySem.W.mg_of X G m_NoName, PySem.W.mg_of X G m_NoRule, PySem.W.mg_of X G m_NoKind, e_NoKind, ⟨e_NoKind, xga_NoKind, xgt_NoKind, xca_NoKind, xsp_NoKind, xtk_NoKind, xmo_NoKind, xmb_NoKind⟩, u_NoKind_LeafError, i_NoKind_0, i_NoKind_1, i_NoKind_2, PySem.W.mg_of X G m_NoTree, PySem.W.mg_of X G m_NoPlace, PySem.W.mg_of X G m_NoGiven, PySem.W.mg_of X G m_NoWalk, PySem.W.mg_of X G m_Ring, PySem.W.mg_of X G c_NEEDS, ⟨es_NEEDS, n_NEEDS, dl_NEEDS, dk_NEEDS, dv_NEEDS⟩, y_NEEDS, fun _ => .inr ⟨_, _, _, q_NEEDS_0, rfl, rfl, (by show 2 ≤ sizeLine; decide), .cons ⟨_, rfl⟩ (.cons ⟨_, rfl⟩ (.nil))⟩, fun _ => .inr ⟨_, _, _, q_NEEDS_1, rfl, rfl, (by show 2 ≤ sizeLine; decide), .cons ⟨_, rfl⟩ (.cons ⟨_, rfl⟩ (.nil))⟩, fun _ => .inr ⟨_, _, _, q_NEEDS_2, rfl, rfl, (by show 2 ≤ sizeLine; decide), .cons ⟨_, rfl⟩ (.cons ⟨_, rfl⟩ (.nil))⟩, fun _ => .inr ⟨_, _, _, q_NEEDS_3, rfl, rfl, (by show 2 ≤ sizeLine; decide), .cons ⟨_, rfl⟩ (.cons ⟨_, rfl⟩ (.nil))⟩, fun _ => .inr ⟨_, _, _, q_NEEDS_4, rfl, rfl, (by show 2 ≤ sizeLine; decide), .cons ⟨_, rfl⟩ (.cons ⟨_, rfl⟩ (.nil))⟩, fun _ => .inr ⟨_, _, _, q_NEEDS_5, rfl, rfl, (by show 1 ≤ sizeLine; decide), .cons ⟨_, rfl⟩ (.nil)⟩, fun _ => .inr ⟨_, _, _, q_NEEDS_6, rfl, rfl, (by show 1 ≤ sizeLine; decide), .cons ⟨_, rfl⟩ (.nil)⟩, fun _ => .inr ⟨_, _, _, q_NEEDS_7, rfl, rfl, (by show 2 ≤ sizeLine; decide), .cons ⟨_, rfl⟩ (.cons ⟨_, rfl⟩ (.nil))⟩, fun _ => .inr ⟨_, _, _, q_NEEDS_8, rfl, rfl, (by show 2 ≤ sizeLine; decide), .cons ⟨_, rfl⟩ (.cons ⟨_, rfl⟩ (.nil))⟩, fun _ => .inr ⟨_, _, _, q_NEEDS_9, rfl, rfl, (by show 2 ≤ sizeLine; decide), .cons ⟨_, rfl⟩ (.cons ⟨_, rfl⟩ (.nil))⟩, fun _ => .inr ⟨_, _, _, q_NEEDS_10, rfl, rfl, (by show 1 ≤ sizeLine; decide), .cons ⟨_, rfl⟩ (.nil)⟩, PySem.W.mg_of X G c_MAKES, ⟨es_MAKES, n_MAKES, dl_MAKES, dk_MAKES, dv_MAKES⟩, y_MAKES⟩⟩
end K3
set_option Elab.async false
set_option linter.all false
set_option maxRecDepth 100000
set_option maxHeartbeats 4000000
namespace K3
open PySem L2
/-! ### what things are -/
/-- a value of one of the types that the law hands in -/
def Ty (H : Hp) (v : V) : Prop := (v = .non ∨ (∃ b, v = .bl b) ∨ (∃ i, v = .int i) ∨ ∃ x, v = .str x) ∨ ∃ a, v = .ref a ∧ ((∃ xs, H a = some (.tup xs)) ∨ (∃ xs, H a = some (.lst xs)) ∨ ∃ kvs, H a = some (.dK kvs))
theorem Ty.same {H H' : Hp} {v : V} (s : Same H H') (h : Ty H v) : Ty H' v := by
  rcases h with h | ⟨a, e, h | h | h⟩
  · exact .inl h
  · exact .inr ⟨a, e, .inl (h.imp fun _ z => s _ _ z)⟩
  · exact .inr ⟨a, e, .inr (.inl (h.imp fun _ z => s _ _ z))⟩
  · exact .inr ⟨a, e, .inr (.inr (h.imp fun _ z => s _ _ z))⟩
def LIM : Int := 1000000000000000000
def numV : V → Bool
  | .int i => decide (0 ≤ i) && decide (i < LIM)
  | _ => false
def SG : Str := "abcdefghijklmnopqrstuvwxyz0123456789"
def signOk (c : Nat) : Bool := !(Builtin.Str.occurrences SG ⟨#[c]⟩ 0 SG.length 1).isEmpty
def textB (x : Str) : Bool := decide (x.length ≤ 40) && x.cps.toList.all signOk
def rowB (xs : List V) : Bool := decide (xs.length ≤ 12) && xs.all numV
/-- a thing, and what it is: a num, a text, a row -/
inductive Thing (H : Hp) : V → Bool → Bool → Bool → Prop
  | non : Thing H .non false false false
  | bl (b : Bool) : Thing H (.bl b) false false false
  | int (i : Int) : Thing H (.int i) (numV (.int i)) false false
  | str (x : Str) : x.length ≤ 1000 → Thing H (.str x) false (textB x) false
  | tup (a : Addr) (xs : List V) : H a = some (.tup xs) → xs.length ≤ 1000 → (∀ x ∈ xs, Ty H x) → Thing H (.ref a) false false (rowB xs)
  | lst (a : Addr) (xs : List V) : H a = some (.lst xs) → Thing H (.ref a) false false false
  | dct (a : Addr) (kvs : List (Key × V)) : H a = some (.dK kvs) → Thing H (.ref a) false false false
theorem Thing.same {H H' : Hp} {v : V} {n t r : Bool} (s : Same H H') (h : Thing H v n t r) : Thing H' v n t r := by
  cases h with
  | non => exact .non
  | bl b => exact .bl b
  | int i => exact .int i
  | str x hx => exact .str x hx
  | tup a xs h hl ht => exact .tup a xs (s _ _ h) hl fun x hx => (ht x hx).same s
  | lst a xs h => exact .lst a xs (s _ _ h)
  | dct a kvs h => exact .dct a kvs (s _ _ h)
theorem Thing.ty {H : Hp} {v : V} {n t r : Bool} (h : Thing H v n t r) : Ty H v ∧ numV v = n := by
  cases h with
  | non => exact ⟨.inl (.inl rfl), rfl⟩
  | bl b => exact ⟨.inl (.inr (.inl ⟨b, rfl⟩)), rfl⟩
  | int i => exact ⟨.inl (.inr (.inr (.inl ⟨i, rfl⟩))), rfl⟩
  | str x hx => exact ⟨.inl (.inr (.inr (.inr ⟨x, rfl⟩))), rfl⟩
  | tup a xs h hl ht => exact ⟨.inr ⟨a, rfl, .inl ⟨xs, h⟩⟩, rfl⟩
  | lst a xs h => exact ⟨.inr ⟨a, rfl, .inr (.inl ⟨xs, h⟩)⟩, rfl⟩
  | dct a kvs h => exact ⟨.inr ⟨a, rfl, .inr (.inr ⟨kvs, h⟩)⟩, rfl⟩
section
variable {K : PySem.W.Frag}
theorem t_bb : PySem.W.kitOne K (.type "bool") (.type "bool") = some true := by with_unfolding_all rfl
theorem t_ib : PySem.W.kitOne K (.type "int") (.type "bool") = some false := by with_unfolding_all rfl
theorem t_nb : PySem.W.kitOne K (.type "NoneType") (.type "bool") = some false := by with_unfolding_all rfl
theorem t_sb : PySem.W.kitOne K (.type "str") (.type "bool") = some false := by with_unfolding_all rfl
theorem t_tb : PySem.W.kitOne K (.type "tuple") (.type "bool") = some false := by with_unfolding_all rfl
theorem t_lb : PySem.W.kitOne K (.type "list") (.type "bool") = some false := by with_unfolding_all rfl
theorem t_db : PySem.W.kitOne K (.type "dict") (.type "bool") = some false := by with_unfolding_all rfl
theorem t_ii : PySem.W.kitOne K (.type "int") (.type "int") = some true := by with_unfolding_all rfl
theorem t_ni : PySem.W.kitOne K (.type "NoneType") (.type "int") = some false := by with_unfolding_all rfl
theorem t_si : PySem.W.kitOne K (.type "str") (.type "int") = some false := by with_unfolding_all rfl
theorem t_ti : PySem.W.kitOne K (.type "tuple") (.type "int") = some false := by with_unfolding_all rfl
theorem t_li : PySem.W.kitOne K (.type "list") (.type "int") = some false := by with_unfolding_all rfl
theorem t_di : PySem.W.kitOne K (.type "dict") (.type "int") = some false := by with_unfolding_all rfl
theorem t_bs : PySem.W.kitOne K (.type "bool") (.type "str") = some false := by with_unfolding_all rfl
theorem t_is : PySem.W.kitOne K (.type "int") (.type "str") = some false := by with_unfolding_all rfl
theorem t_ns : PySem.W.kitOne K (.type "NoneType") (.type "str") = some false := by with_unfolding_all rfl
theorem t_ss : PySem.W.kitOne K (.type "str") (.type "str") = some true := by with_unfolding_all rfl
theorem t_ts : PySem.W.kitOne K (.type "tuple") (.type "str") = some false := by with_unfolding_all rfl
theorem t_ls : PySem.W.kitOne K (.type "list") (.type "str") = some false := by with_unfolding_all rfl
theorem t_ds : PySem.W.kitOne K (.type "dict") (.type "str") = some false := by with_unfolding_all rfl
theorem t_bt : PySem.W.kitOne K (.type "bool") (.type "tuple") = some false := by with_unfolding_all rfl
theorem t_it : PySem.W.kitOne K (.type "int") (.type "tuple") = some false := by with_unfolding_all rfl
theorem t_nt : PySem.W.kitOne K (.type "NoneType") (.type "tuple") = some false := by with_unfolding_all rfl
theorem t_st : PySem.W.kitOne K (.type "str") (.type "tuple") = some false := by with_unfolding_all rfl
theorem t_tt : PySem.W.kitOne K (.type "tuple") (.type "tuple") = some true := by with_unfolding_all rfl
theorem t_lt : PySem.W.kitOne K (.type "list") (.type "tuple") = some false := by with_unfolding_all rfl
theorem t_dt : PySem.W.kitOne K (.type "dict") (.type "tuple") = some false := by with_unfolding_all rfl
end
def spNum : Sp := fun vs H Q _ => ∃ v, vs = [v] ∧ Ty H v ∧ Q (.bl (numV v)) H
def spText : Sp := fun vs H Q _ => ∃ v n t r, vs = [v] ∧ Thing H v n t r ∧ ∀ H', Same H H' → Q (.bl t) H'
def spRow : Sp := fun vs H Q _ => ∃ v n t r, vs = [v] ∧ Thing H v n t r ∧ ∀ H', Same H H' → Q (.bl r) H'
def kindB (k : Str) (n t r : Bool) : Bool := if k = "num" then n else if k = "text" then t else decide (k = "row") && r
def spKind : Sp := fun vs H Q _ => ∃ k v n t r, vs = [.str k, v] ∧ Thing H v n t r ∧ ∀ H', Same H H' → Q (.bl (kindB k n t r)) H'
section
variable {P : Program} {w : World} {K : PySem.W.Frag} {mg : Str → Option Value} {base : Heap} {T : Adr}
theorem ok_num (X : Tx K w mg T) : FnOk P w K mg base CX0 1 T.qisnum T.d_qisnum ["thing"] spNum := by
  refine X.F_qisnum.okQ sc_qisnum (fun vs H Q E h => ?_) (fun cdv A outer s H vs Q E hr h => ?_)
  · obtain ⟨_, rfl, _⟩ := h
    rfl
  obtain ⟨v, rfl, ty, q⟩ := h
  refine ⟨_, (qss_cons (qs_if (qw_pt (qw_or (qt_val (qe_callB call_isinst rfl X.z_isinstance PyProof.Rows.boot_isinstance (qaN (qv 0) (qaN (qe_bltn rfl X.z_bool PyProof.Rows.boot_bool rfl (v := .ty "bool")) qa_nil)))) (qw_or1 (qt_not (qt_val (qe_callB call_isinst rfl X.z_isinstance PyProof.Rows.boot_isinstance (qaN (qv 0) (qaN (qe_bltn rfl X.z_int PyProof.Rows.boot_int rfl (v := .ty "int")) qa_nil)))))))) (qss_one (qs_ret qe_bl)) qss_nil) (qss_one (qs_ret (qe_chain op_le op_lt qe_int (qv 0) (qe_glob rfl X.c_LIMIT (v := V.int 1000000000000000000) ⟨_, rfl⟩))))), ?_⟩
  rcases ty with (rfl | ⟨b, rfl⟩ | ⟨i, rfl⟩ | ⟨x, rfl⟩) | ⟨a, rfl, ⟨xs, h⟩ | ⟨xs, h⟩ | ⟨kvs, h⟩⟩
  · exact ⟨_, rfl, _, "bool", _, _, rfl, .non, t_nb, _, rfl, _, rfl, _, "int", _, _, rfl, .non, t_ni, _, rfl, q⟩
  · exact ⟨_, rfl, _, "bool", _, _, rfl, .bl b, t_bb, _, rfl, q⟩
  · refine ⟨_, rfl, _, "bool", _, _, rfl, .int i, t_ib, _, rfl, _, rfl, _, "int", _, _, rfl, .int i, t_ii, _, rfl, ?_⟩
    refine ⟨_, rfl, _, _, rfl, rfl, _, rfl, ?_⟩
    refine iteDd (fun h0 => ⟨_, _, rfl, rfl, ?_⟩) (fun h0 => ?_)
    · have e : numV (.int i) = decide (i < 1000000000000000000) := by
        show (decide (0 ≤ i) && decide (i < LIM)) = _
        rw [decide_eq_true h0, Bool.true_and]
        rfl
      rw [e] at q
      exact q
    · have e : numV (.int i) = false := by
        show (decide (0 ≤ i) && decide (i < LIM)) = _
        rw [decide_eq_false h0, Bool.false_and]
      rw [e] at q
      exact q
  · exact ⟨_, rfl, _, "bool", _, _, rfl, .str x, t_sb, _, rfl, _, rfl, _, "int", _, _, rfl, .str x, t_si, _, rfl, q⟩
  · exact ⟨_, rfl, _, "bool", _, _, rfl, .tup h, t_tb, _, rfl, _, rfl, _, "int", _, _, rfl, .tup h, t_ti, _, rfl, q⟩
  · exact ⟨_, rfl, _, "bool", _, _, rfl, .lst h, t_lb, _, rfl, _, rfl, _, "int", _, _, rfl, .lst h, t_li, _, rfl, q⟩
  · exact ⟨_, rfl, _, "bool", _, _, rfl, .dK h, t_db, _, rfl, _, rfl, _, "int", _, _, rfl, .dK h, t_di, _, rfl, q⟩
theorem sign_eq (c : Nat) : (!(Builtin.Str.occurrences "abcdefghijklmnopqrstuvwxyz0123456789" ⟨#[c]⟩ 0 (Str.length "abcdefghijklmnopqrstuvwxyz0123456789") 1).isEmpty) = signOk c := rfl
theorem ok_text (X : Tx K w mg T) : FnOk P w K mg base CX0 1 T.qistext T.d_qistext ["thing"] spText := by
  refine X.F_qistext.okQ sc_qistext (fun vs H Q E h => ?_) (fun cdv A outer s H vs Q E hr h => ?_)
  · obtain ⟨_, _, _, _, rfl, _⟩ := h
    rfl
  obtain ⟨v, n, t, r, rfl, th, q⟩ := h
  refine ⟨_, (qss_cons (qs_if (qw_pt (qw_or (qt_not (qt_val (qe_callB call_isinst rfl X.z_isinstance PyProof.Rows.boot_isinstance (qaN (qv 0) (qaN (qe_bltn rfl X.z_str PyProof.Rows.boot_str rfl (v := .ty "str")) qa_nil))))) (qw_or1 (qt_cmpR op_gt (qe_callB call_len_str rfl X.z_len PySem.boot_len (qaN (qv 0) qa_nil)) (qe_glob rfl X.c_MOST_SIGNS (v := V.int 40) ⟨_, rfl⟩) (nomark _))))) (qss_one (qs_ret qe_bl)) qss_nil) (qss_one (qs_ret (qe_callB (call_all rfl) rfl X.z_all PyProof.Rows.boot_all (qaE (qe_comp (ys := []) (js := []) rfl rfl (qi_str (qv 0)) (fun _ _ _ _ _ => qif_nil) (fun _ _ _ _ _ => (qe_cmpR op_in_str (qv 0) (qe_glob rfl X.c_SIGNS (v := V.str "abcdefghijklmnopqrstuvwxyz0123456789") ⟨_, rfl⟩) rfl))) qa_nil))))), ?_⟩
  have qs := q H (Same.refl H)
  cases th with
  | non => exact ⟨_, rfl, _, "str", _, _, rfl, .non, t_ns, _, rfl, qs⟩
  | bl b => exact ⟨_, rfl, _, "str", _, _, rfl, .bl b, t_bs, _, rfl, qs⟩
  | int i => exact ⟨_, rfl, _, "str", _, _, rfl, .int i, t_is, _, rfl, qs⟩
  | tup a xs h hl ht => exact ⟨_, rfl, _, "str", _, _, rfl, .tup h, t_ts, _, rfl, qs⟩
  | lst a xs h => exact ⟨_, rfl, _, "str", _, _, rfl, .lst h, t_ls, _, rfl, qs⟩
  | dct a kvs h => exact ⟨_, rfl, _, "str", _, _, rfl, .dK h, t_ds, _, rfl, qs⟩
  | str x hx =>
    have hlen : x.cps.size = x.length := rfl
    refine ⟨_, rfl, _, "str", _, _, rfl, .str x, t_ss, _, rfl, _, rfl, x, rfl, fits2 (by omega), _, _, rfl, rfl, _, rfl, iteDd (fun h40 => ?_) (fun h40 => ?_)⟩
    · have e : textB x = false := by
        unfold textB
        rw [decide_eq_false (by omega), Bool.false_and]
      rw [e] at qs
      exact qs
    · refine ⟨_, rfl, x, rfl, fun D hD => comp_strM (ys := x.cps.toList.map fun c => V.bl (signOk c)) (fitsL (by omega)) (by simp) hD (fun i c y H' hc hy sm Q' q' => ?_) (fun H' sm hl => ⟨D, x.cps.toList.map signOk, rfl, SqL.of (by rw [hl, List.map_map]; rfl), ?_⟩)⟩
      · refine ⟨_, rfl, _, _, rfl, rfl, ?_⟩
        have e : y = V.bl (signOk c) := by
          rw [List.getElem?_map, Array.getElem?_toList, hc] at hy
          exact (Option.some.inj hy).symm
        rw [e] at q'
        exact q' _ (Same.refl _)
      · have e : (x.cps.toList.map signOk).all id = textB x := by
          unfold textB
          rw [decide_eq_true (by omega), Bool.true_and, List.all_map]
          rfl
        rw [e]
        exact q H' sm
theorem ok_row (X : Tx K w mg T) : FnOk P w K mg base CX0 3 T.qisrow T.d_qisrow ["thing"] spRow := by
  have G_qisnum := (ok_num (P := P) (w := w) (base := base) X).mono (show 1 ≤ 2 by decide)
  refine X.F_qisrow.okQ sc_qisrow (fun vs H Q E h => ?_) (fun cdv A outer s H vs Q E hr h => ?_)
  · obtain ⟨_, _, _, _, rfl, _⟩ := h
    rfl
  obtain ⟨v, n, t, r, rfl, th, q⟩ := h
  refine ⟨_, (qss_cons (qs_if (qw_pt (qw_or (qt_not (qt_val (qe_callB call_isinst rfl X.z_isinstance PyProof.Rows.boot_isinstance (qaN (qv 0) (qaN (qe_bltn rfl X.z_tuple PyProof.Rows.boot_tuple rfl (v := .ty "tuple")) qa_nil))))) (qw_or1 (qt_cmpR op_gt (qe_callB call_len_seq rfl X.z_len PySem.boot_len (qaN (qv 0) qa_nil)) (qe_glob rfl X.c_MOST_NUMS (v := V.int 12) ⟨_, rfl⟩) (nomark _))))) (qss_one (qs_ret qe_bl)) qss_nil) (qss_one (qs_ret (qe_callB (call_all rfl) rfl X.z_all PyProof.Rows.boot_all (qaE (qe_comp (ys := []) (js := []) rfl rfl (qi_tup (qv 0)) (fun _ _ _ _ _ => qif_nil) (fun _ _ _ _ _ => (qe_call G_qisnum hr rfl X.m_qisnum X.F_qisnum.kp X.b_qisnum .nil pass0 (qaN (qv 0) qa_nil)))) qa_nil))))), ?_⟩
  have qs := q H (Same.refl H)
  cases th with
  | non => exact ⟨_, rfl, _, "tuple", _, _, rfl, .non, t_nt, _, rfl, qs⟩
  | bl b => exact ⟨_, rfl, _, "tuple", _, _, rfl, .bl b, t_bt, _, rfl, qs⟩
  | int i => exact ⟨_, rfl, _, "tuple", _, _, rfl, .int i, t_it, _, rfl, qs⟩
  | str x hx => exact ⟨_, rfl, _, "tuple", _, _, rfl, .str x, t_st, _, rfl, qs⟩
  | lst a xs h => exact ⟨_, rfl, _, "tuple", _, _, rfl, .lst h, t_lt, _, rfl, qs⟩
  | dct a kvs h => exact ⟨_, rfl, _, "tuple", _, _, rfl, .dK h, t_dt, _, rfl, qs⟩
  | tup a xs h hl ht =>
    refine ⟨_, rfl, _, "tuple", _, _, rfl, .tup h, t_tt, _, rfl, _, rfl, a, _, rfl, .inr (SqT.of h), _, _, rfl, rfl, _, rfl, iteDd (fun h12 => ?_) (fun h12 => ?_)⟩
    · have e : rowB xs = false := by
        unfold rowB
        rw [decide_eq_false (by omega), Bool.false_and]
      rw [e] at qs
      exact qs
    · refine ⟨_, rfl, a, rfl, ⟨_, SqT.of h⟩, fun D hD => comp_tupM (K := K) (xs := xs) (ys := xs.map fun x => V.bl (numV x)) (fitsL (by omega)) (by simp) (SqT.of h) hD (fun i x y H' hx hy sm Q' q' => ?_) (fun H' sm hl => ⟨D, xs.map numV, rfl, SqL.of (by rw [hl, List.map_map]; rfl), ?_⟩)⟩
      · refine ⟨_, rfl, _, rfl, (ht x (List.mem_of_getElem? hx)).same sm, ?_⟩
        have e : y = V.bl (numV x) := by
          rw [List.getElem?_map, hx] at hy
          exact (Option.some.inj hy).symm
        rw [e] at q'
        exact q' _ (Same.refl _)
      · have e : (xs.map numV).all id = rowB xs := by
          unfold rowB
          rw [decide_eq_true (by omega), Bool.true_and, List.all_map]
          rfl
        rw [e]
        exact q H' sm
theorem ok_kind (X : Tx K w mg T) : FnOk P w K mg base CX0 4 T.qiskind T.d_qiskind ["kind", "thing"] spKind := by
  have G_qisnum := (ok_num (P := P) (w := w) (base := base) X).mono (show 1 ≤ 3 by decide)
  have G_qistext := (ok_text (P := P) (w := w) (base := base) X).mono (show 1 ≤ 3 by decide)
  have G_qisrow := ok_row (P := P) (w := w) (base := base) X
  refine X.F_qiskind.okQ sc_qiskind (fun vs H Q E h => ?_) (fun cdv A outer s H vs Q E hr h => ?_)
  · obtain ⟨_, _, _, _, _, rfl, _⟩ := h
    rfl
  obtain ⟨k, v, n, t, r, rfl, th, q⟩ := h
  refine ⟨_, (qss_cons (qs_if (qt_cmpR op_eq (qv 0) qe_str (nomark _)) (qss_one (qs_ret (qe_call G_qisnum hr rfl X.m_qisnum X.F_qisnum.kp X.b_qisnum .nil pass0 (qaN (qv 1) qa_nil)))) qss_nil) (qss_cons (qs_if (qt_cmpR op_eq (qv 0) qe_str (nomark _)) (qss_one (qs_ret (qe_call G_qistext hr rfl X.m_qistext X.F_qistext.kp X.b_qistext .nil pass0 (qaN (qv 1) qa_nil)))) qss_nil) (qss_one (qs_ret (qe_and (qe_cmpR op_eq (qv 0) qe_str (nomark _)) (qe_one (qe_call G_qisrow hr rfl X.m_qisrow X.F_qisrow.kp X.b_qisrow .nil pass0 (qaN (qv 1) qa_nil)))))))), ?_⟩
  refine ⟨_, rfl, rfl, _, rfl, iteDd (fun e1 => ?_) (fun e1 => ?_)⟩
  · have e1 : k = "num" := by simpa using e1
    have e : kindB k n t r = n := by unfold kindB; rw [if_pos e1]
    rw [e] at q
    refine ⟨_, rfl, _, rfl, th.ty.1, ?_⟩
    rw [th.ty.2]
    exact q H (Same.refl H)
  have n1 : ¬ k = "num" := fun z => e1 (by rw [z])
  refine ⟨_, rfl, rfl, _, rfl, iteDd (fun e2 => ?_) (fun e2 => ?_)⟩
  · have e2 : k = "text" := by simpa using e2
    have e : kindB k n t r = t := by unfold kindB; rw [if_neg n1, if_pos e2]
    rw [e] at q
    exact ⟨_, rfl, _, _, _, _, rfl, th, q⟩
  have n2 : ¬ k = "text" := fun z => e2 (by rw [z])
  have e : kindB k n t r = (decide (k = "row") && r) := by unfold kindB; rw [if_neg n1, if_neg n2]
  rw [e] at q
  refine ⟨_, rfl, rfl, _, rfl, ?_⟩
  refine iteDd (fun e3 => ?_) (fun e3 => ?_)
  · have e3 : k = "row" := by simpa using e3
    rw [decide_eq_true e3, Bool.true_and] at q
    exact ⟨_, rfl, _, _, _, _, rfl, th, q⟩
  · have n3 : ¬ k = "row" := fun z => e3 (by rw [z])
    rw [decide_eq_false n3, Bool.false_and] at q
    exact q H (Same.refl H)
end
end K3
set_option Elab.async false
set_option linter.all false
set_option maxRecDepth 100000
set_option maxHeartbeats 4000000
namespace K3
open PySem L2
/-! ### made_kind -/
def KindsOk (ks : List Str) : Prop := ks.length ≤ 4 ∧ ∀ k ∈ ks, k ∈ (["num", "text", "row"] : List Str)
def WordOk (d : Str) : Prop := d.cps.size ≤ 10 ∧ (d.cps.toList.all fun c => decide (c < 16 ^ 8)) = true
def pickK : List Str → Option Str
  | [a, b, c] => if a = "num" then if b = c then some b else none else none
  | _ => none
def NEED : List (Str × List Str × Str) := [("add", ["num", "num"], "num"), ("sub", ["num", "num"], "num"), ("mul", ["num", "num"], "num"), ("less", ["num", "num"], "num"), ("glue", ["text", "text"], "text"), ("show", ["num"], "text"), ("size", ["text"], "num"), ("put", ["row", "num"], "row"), ("link", ["row", "row"], "row"), ("at", ["row", "num"], "num"), ("many", ["row"], "num")]
def needK (d : Str) : Option (List Str × Str) := (NEED.find? fun e => e.1 == d).map (·.2)
def madeK (d : Str) (ks : List Str) : Option Str := if d = "pick" then pickK ks else match needK d with
  | none => none
  | some e => if ks = e.1 then some e.2 else none
theorem kind_size {k : Str} (h : k ∈ (["num", "text", "row"] : List Str)) : k.cps.size ≤ 4 ∧ (k.cps.toList.all fun c => decide (c < 16 ^ 8)) = true := by
  simp only [List.mem_cons, List.mem_nil_iff, or_false] at h
  rcases h with rfl | rfl | rfl <;> exact ⟨by decide, by decide⟩
theorem bulk_strs : ∀ (ks : List Str), (∀ k ∈ ks, k ∈ (["num", "text", "row"] : List Str)) → PyData.bulkAll (ks.map .str) ≤ 5 * ks.length ∧ PyData.leavesShortAll 8 (ks.map .str) = true
  | [], _ => ⟨by simp [PyData.bulkAll], by simp [PyData.leavesShortAll]⟩
  | k :: ks, h => by
    obtain ⟨h1, h2⟩ := bulk_strs ks fun x hx => h x (List.mem_cons_of_mem _ hx)
    obtain ⟨h3, h4⟩ := kind_size (h k List.mem_cons_self)
    constructor
    · simp only [List.map_cons, PyData.bulkAll, PyData.bulk, List.length_cons]
      omega
    · simp only [List.map_cons, PyData.leavesShortAll, PyData.leavesShort, h4, h2, Bool.and_self]
theorem shown_kinds {ks : List Str} (h : KindsOk ks) : (PyData.list (ks.map .str)).shown.length ≤ 1000 := by
  obtain ⟨h1, h2⟩ := bulk_strs ks h.2
  have := PyData.shown_le_bulk 8 (by decide) (.list (ks.map .str)) (by simpa only [PyData.leavesShort] using h2)
  have e : PyData.bulk (.list (ks.map .str)) = PyData.bulkAll (ks.map .str) := by simp only [PyData.bulk]
  have h3 := h.1
  rw [e] at this
  omega
theorem shown_word {d : Str} (h : WordOk d) : (PyData.str d).shown.length ≤ 1000 := by
  have := PyData.shown_le_bulk 8 (by decide) (.str d) (by simpa only [PyData.leavesShort] using h.2)
  have e : PyData.bulk (.str d) = d.cps.size := by simp only [PyData.bulk]
  have h3 := h.1
  rw [e] at this
  omega
theorem noDict_strs : ∀ ks : List Str, PyData.hasDictAll (ks.map .str) = false
  | [] => by simp [PyData.hasDictAll]
  | k :: ks => by simp [PyData.hasDictAll, PyData.hasDict, noDict_strs ks]
theorem depth_strs : ∀ ks : List Str, PyData.depthAll (ks.map .str) = 0
  | [] => by simp [PyData.depthAll]
  | k :: ks => by simp [PyData.depthAll, PyData.depth, depth_strs ks]
theorem shw_strs {K : PySem.W.Frag} {H : Hp} : ∀ ks : List Str, ShwA K H (ks.map V.str) (ks.map .str)
  | [] => .nil
  | k :: ks => .cons (.str k) (shw_strs ks)
theorem app_len (a b : Str) : (a ++ b).length = a.length + b.length := strLen_append a b
theorem eqDs_strs : ∀ (ks ns : List Str), eqDs (ks.map fun n => Da.fl (.str n)) (ns.map fun n => Da.fl (.str n)) = decide (ks = ns)
  | [], [] => by simp [eqDs]
  | [], n :: ns => by simp [eqDs]
  | k :: ks, [] => by simp [eqDs]
  | k :: ks, n :: ns => by
    rw [List.map_cons, List.map_cons]
    unfold eqDs
    rw [eqDs_strs ks ns]
    unfold eqD
    have e : eqV (.str k) (.str n) = decide (k = n) := by first | rfl | simp [eqV]
    rw [e]
    by_cases h1 : k = n <;> by_cases h2 : ks = ns <;> simp [h1, h2]
def spPick (C : Addr) : Sp := fun vs H Q E => ∃ a ks, vs = [.ref a] ∧ H a = some (.lst (ks.map V.str)) ∧ KindsOk ks ∧ match pickK ks with
  | some k => Q (.str k) H
  | none => E (.ref C) none H
def spMade (C : Addr) : Sp := fun vs H Q E => ∃ a d ks, vs = [.str d, .ref a] ∧ H a = some (.lst (ks.map V.str)) ∧ KindsOk ks ∧ WordOk d ∧ match madeK d ks with
  | some k => ∀ H', Same H H' → Q (.str k) H'
  | none => ∀ H', Same H H' → E (.ref C) none H'
section
variable {P : Program} {w : World} {K : PySem.W.Frag} {mg : Str → Option Value} {base : Heap} {T : Adr}
theorem need_of (X : Tx K w mg T) {d : Str} {ns : List Str} {k : Str} (h : (d, ns, k) ∈ NEED) : ∃ a t, valT [(("add" : Str), Value.ref T.NEEDS_0), (("sub" : Str), Value.ref T.NEEDS_1), (("mul" : Str), Value.ref T.NEEDS_2), (("less" : Str), Value.ref T.NEEDS_3), (("glue" : Str), Value.ref T.NEEDS_4), (("show" : Str), Value.ref T.NEEDS_5), (("size" : Str), Value.ref T.NEEDS_6), (("put" : Str), Value.ref T.NEEDS_7), (("link" : Str), Value.ref T.NEEDS_8), (("at" : Str), Value.ref T.NEEDS_9), (("many" : Str), Value.ref T.NEEDS_10)] d = some (.ref a) ∧ (∀ H, SqT K H a (ns.map V.str)) ∧ valT [(("add" : Str), Value.str "num" T.MAKES_0), (("sub" : Str), Value.str "num" T.MAKES_1), (("mul" : Str), Value.str "num" T.MAKES_2), (("less" : Str), Value.str "num" T.MAKES_3), (("glue" : Str), Value.str "text" T.MAKES_4), (("show" : Str), Value.str "text" T.MAKES_5), (("size" : Str), Value.str "num" T.MAKES_6), (("put" : Str), Value.str "row" T.MAKES_7), (("link" : Str), Value.str "row" T.MAKES_8), (("at" : Str), Value.str "num" T.MAKES_9), (("many" : Str), Value.str "num" T.MAKES_10)] d = some (.str k t) := by
  simp only [NEED, List.mem_cons, List.mem_nil_iff, or_false, Prod.mk.injEq] at h
  rcases h with ⟨rfl, rfl, rfl⟩ | ⟨rfl, rfl, rfl⟩ | ⟨rfl, rfl, rfl⟩ | ⟨rfl, rfl, rfl⟩ | ⟨rfl, rfl, rfl⟩ | ⟨rfl, rfl, rfl⟩ | ⟨rfl, rfl, rfl⟩ | ⟨rfl, rfl, rfl⟩ | ⟨rfl, rfl, rfl⟩ | ⟨rfl, rfl, rfl⟩ | ⟨rfl, rfl, rfl⟩
  · exact ⟨T.NEEDS_0, T.MAKES_0, rfl, X.q_NEEDS_0, rfl⟩
  · exact ⟨T.NEEDS_1, T.MAKES_1, rfl, X.q_NEEDS_1, rfl⟩
  · exact ⟨T.NEEDS_2, T.MAKES_2, rfl, X.q_NEEDS_2, rfl⟩
  · exact ⟨T.NEEDS_3, T.MAKES_3, rfl, X.q_NEEDS_3, rfl⟩
  · exact ⟨T.NEEDS_4, T.MAKES_4, rfl, X.q_NEEDS_4, rfl⟩
  · exact ⟨T.NEEDS_5, T.MAKES_5, rfl, X.q_NEEDS_5, rfl⟩
  · exact ⟨T.NEEDS_6, T.MAKES_6, rfl, X.q_NEEDS_6, rfl⟩
  · exact ⟨T.NEEDS_7, T.MAKES_7, rfl, X.q_NEEDS_7, rfl⟩
  · exact ⟨T.NEEDS_8, T.MAKES_8, rfl, X.q_NEEDS_8, rfl⟩
  · exact ⟨T.NEEDS_9, T.MAKES_9, rfl, X.q_NEEDS_9, rfl⟩
  · exact ⟨T.NEEDS_10, T.MAKES_10, rfl, X.q_NEEDS_10, rfl⟩
theorem need_no {d : Str} (h : needK d = none) : valT [(("add" : Str), Value.ref T.NEEDS_0), (("sub" : Str), Value.ref T.NEEDS_1), (("mul" : Str), Value.ref T.NEEDS_2), (("less" : Str), Value.ref T.NEEDS_3), (("glue" : Str), Value.ref T.NEEDS_4), (("show" : Str), Value.ref T.NEEDS_5), (("size" : Str), Value.ref T.NEEDS_6), (("put" : Str), Value.ref T.NEEDS_7), (("link" : Str), Value.ref T.NEEDS_8), (("at" : Str), Value.ref T.NEEDS_9), (("many" : Str), Value.ref T.NEEDS_10)] d = none := by
  unfold needK NEED at h
  simp only [Option.map_eq_none_iff, List.find?_eq_none, List.mem_cons, List.mem_nil_iff, or_false, forall_eq_or_imp, forall_eq] at h
  unfold valT
  simp only [Option.map_eq_none_iff, List.find?_eq_none, List.mem_cons, List.mem_nil_iff, or_false, forall_eq_or_imp, forall_eq]
  exact h
theorem ok_pick (X : Tx K w mg T) : FnOk P w K mg base (CXe P w) 2 T.qpickedkind T.d_qpickedkind ["kinds"] (spPick T.k_NoKind) := by
  refine X.F_qpickedkind.okE sc_qpickedkind (fun vs H Q E h => ?_) (fun cdv A outer s H vs Q E hr h => ?_)
  · obtain ⟨_, _, rfl, _⟩ := h
    rfl
  obtain ⟨a, ks, rfl, ha, kok, q⟩ := h
  refine ⟨_, (qss_cons (qs_if (qw_pt (qw_and (qt_cmpR op_eq (qe_callB call_len_seq rfl X.z_len PySem.boot_len (qaN (qv 0) qa_nil)) qe_int (nomark _)) (qw_and (qt_cmpR op_eq (qe_ix ix_list (qv 0) qe_int (fun _ _ => rfl)) qe_str (nomark _)) (qw_and1 (qt_cmpR op_eq (qe_ix ix_list (qv 0) qe_int (fun _ _ => rfl)) (qe_ix ix_list (qv 0) qe_int (fun _ _ => rfl)) (nomark _)))))) (qss_one (qs_ret (qe_ix ix_list (qv 0) qe_int (fun _ _ => rfl)))) qss_nil) (qss_one (qs_raise rfl rfl X.m_NoKind X.e_NoKind (qaJ (qe_join (qj_cons qe_str (qj_cons (qe_rep hr (qv 0)) qj_nil))) qa_nil) xe_raise))), ?_⟩
  have hsz : sizeLine = 16777216 := by decide
  have l0 : (Str.empty ++ ("pick makes nothing of " : Str)).length = 22 := by decide
  have fin : pickK ks = none → tRaise (fun H => E (.ref T.k_NoKind) none H) (tCons (tJoins [tC (.str "pick makes nothing of "), tRep K (tVar 0)] Str.empty) tNil) { nx := fun _ H' => Q .non H', rt := Q } (start ["kinds"] [.ref a]) H := fun e => by
    rw [e] at q
    have hs := shown_kinds kok
    refine ⟨_, rfl, by rw [l0]; omega, _, rfl, .list (ks.map .str), .lst (SqL.of ha) (shw_strs ks), ?_, ?_, ?_, by omega, _, rfl, by rw [app_len, l0]; omega, (by show 1 ≤ 10; decide), q⟩
    · simp only [PyData.showable]; exact PyData.showableAll_strs ks
    · simp only [PyData.hasDict]; exact noDict_strs ks
    · simp only [PyData.depth, depth_strs]; decide
  by_cases h3 : ks.length = 3
  · match ks, h3, ha, fin, q with
    | [k0, k1, k2], _, ha, fin, q =>
      refine ⟨_, rfl, a, _, rfl, .inl (SqL.of ha), rfl, _, rfl, iteYd rfl ?_⟩
      refine ⟨_, rfl, a, _, 0, _, rfl, rfl, SqL.of ha, rfl, rfl, _, rfl, iteDd (fun e0 => ?_) (fun e0 => ?_)⟩
      · have e0 : k0 = "num" := by simpa using e0
        refine ⟨_, rfl, a, _, 1, _, rfl, rfl, SqL.of ha, rfl, _, rfl, a, _, 2, _, rfl, rfl, SqL.of ha, rfl, rfl, _, rfl, iteDd (fun e1 => ?_) (fun e1 => ?_)⟩
        · have e1 : k1 = k2 := by simpa using e1
          have e : pickK [k0, k1, k2] = some k1 := by show (if k0 = "num" then if k1 = k2 then some k1 else none else none) = _; rw [if_pos e0, if_pos e1]
          rw [e] at q
          exact ⟨_, rfl, a, _, 1, _, rfl, rfl, SqL.of ha, rfl, q⟩
        · have n1 : ¬ k1 = k2 := fun z => e1 (by rw [z])
          exact fin (by show (if k0 = "num" then if k1 = k2 then some k1 else none else none) = _; rw [if_pos e0, if_neg n1])
      · have n0 : ¬ k0 = "num" := fun z => e0 (by rw [z])
        exact fin (by show (if k0 = "num" then if k1 = k2 then some k1 else none else none) = _; rw [if_neg n0])
  · refine ⟨_, rfl, a, _, rfl, .inl (SqL.of ha), rfl, _, rfl, iteNd (fun z => h3 ?_) ?_⟩
    · have := V.int.inj z
      rw [List.length_map] at this
      omega
    · refine fin ?_
      match ks, h3 with
      | [], _ => rfl
      | [_], _ => rfl
      | [_, _], _ => rfl
      | [_, _, _], h => exact absurd rfl h
      | _ :: _ :: _ :: _ :: _, _ => rfl
theorem ok_made (X : Tx K w mg T) : FnOk P w K mg base (CXe P w) 4 T.qmadekind T.d_qmadekind ["deed", "kinds"] (spMade T.k_NoKind) := by
  have G_qpickedkind := (ok_pick (P := P) (w := w) (base := base) X).mono (show 2 ≤ 3 by decide)
  refine X.F_qmadekind.okE sc_qmadekind (fun vs H Q E h => ?_) (fun cdv A outer s H vs Q E hr h => ?_)
  · obtain ⟨_, _, _, rfl, _⟩ := h
    rfl
  obtain ⟨a, d, ks, rfl, ha, kok, wok, q⟩ := h
  refine ⟨_, (qss_cons (qs_if (qt_cmpR op_eq (qv 0) qe_str (nomark _)) (qss_one (qs_ret (qe_call G_qpickedkind hr rfl X.m_qpickedkind X.F_qpickedkind.kp X.b_qpickedkind .nil pass_on (qaN (qv 1) qa_nil)))) qss_nil) (qss_cons (qs_if (qt_cmpR op_notInTop (qv 0) (qe_glob rfl X.c_NEEDS (v := V.ref T.a_NEEDS) rfl) rfl) (qss_one (qs_raise rfl rfl X.m_NoKind X.e_NoKind (qaJ (qe_join (qj_cons qe_str (qj_cons (qe_rep hr (qv 0)) qj_nil))) qa_nil) xe_raise)) qss_nil) (qss_cons (qs_if (qt_cmpR (op_neD hr.units) (qe_callTy call_tuple_of rfl X.z_tuple PyProof.Rows.boot_tuple (qaN (qv 1) qa_nil)) (qe_ix ix_top (qe_glob rfl X.c_NEEDS (v := V.ref T.a_NEEDS) rfl) (qv 0) (fun _ _ => rfl)) (nomark _)) (qss_one (qs_raise rfl rfl X.m_NoKind X.e_NoKind (qaJ (qe_join (qj_cons (qe_fmt (qv 0)) (qj_cons qe_str (qj_cons (qe_rep hr (qv 1)) qj_nil)))) qa_nil) xe_raise)) qss_nil) (qss_one (qs_ret (qe_ix ix_top (qe_glob rfl X.c_MAKES (v := V.ref T.a_MAKES) rfl) (qv 0) (fun _ _ => rfl))))))), ?_⟩
  have hsz : sizeLine = 16777216 := by decide
  refine ⟨_, rfl, rfl, _, rfl, iteDd (fun e1 => ?_) (fun e1 => ?_)⟩
  · have e1 : d = "pick" := by simpa using e1
    have e : madeK d ks = pickK ks := by unfold madeK; rw [if_pos e1]
    rw [e] at q
    refine ⟨_, rfl, _, _, rfl, ha, kok, ?_⟩
    cases hp : pickK ks with
    | some k => rw [hp] at q; exact q H (Same.refl H)
    | none => rw [hp] at q; exact q H (Same.refl H)
  have n1 : ¬ d = "pick" := fun z => e1 (by rw [z])
  cases hn : needK d with
  | none =>
    have e : madeK d ks = none := by unfold madeK; rw [if_neg n1, hn]
    rw [e] at q
    refine ⟨_, rfl, _, _, _, rfl, rfl, X.d_NEEDS, X.y_NEEDS, _, rfl, iteY (by rw [need_no hn]; rfl) ?_⟩
    have l0 : (Str.empty ++ ("there is no deed " : Str)).length = 17 := by decide
    have hs := shown_word wok
    exact ⟨_, rfl, by rw [l0]; omega, _, rfl, .str d, .str d, by simp only [PyData.showable], by simp only [PyData.hasDict], by simp only [PyData.depth]; decide, by omega, _, rfl, by rw [app_len, l0]; omega, (by show 1 ≤ 10; decide), q H (Same.refl H)⟩
  | some e =>
    obtain ⟨ns, k⟩ := e
    have hm : (d, ns, k) ∈ NEED := by
      unfold needK at hn
      obtain ⟨⟨d', e'⟩, hf, he⟩ := Option.map_eq_some_iff.mp hn
      have h1 := List.find?_some hf
      have h2 := List.mem_of_find?_eq_some hf
      have h3 : d' = d := by simpa using h1
      rw [← h3, ← he]
      exact h2
    obtain ⟨b, t, hv, hq, hk⟩ := need_of X hm
    refine ⟨_, rfl, _, _, _, rfl, rfl, X.d_NEEDS, X.y_NEEDS, _, rfl, iteN (by rw [hv]; rfl) ?_⟩
    have hml : madeK d ks = if ks = ns then some k else none := by unfold madeK; rw [if_neg n1, hn]
    refine ⟨_, rfl, a, _, rfl, .inl ⟨SqL.of ha, fun p hp => ⟨_, rfl, d, _, _, _, .ref b, rfl, rfl, X.d_NEEDS, hv, rfl, ?_⟩⟩⟩
    have sm : Same H (upd H p (.tup (ks.map V.str))) := same_new hp _
    refine ⟨p, b, _, _, _, _, rfl, rfl, .inl ⟨SqT.of upd_same, hq _⟩, isds_strs ks, isds_strs ns, ?_, ?_⟩
    · rw [dep_strs]
      decide
    · rw [eqDs_strs]
      refine ⟨_, rfl, ?_⟩
      by_cases hks : ks = ns
      · have e : madeK d ks = some k := by rw [hml, if_pos hks]
        rw [e] at q
        refine iteN (by rw [decide_eq_true hks]; rfl) ?_
        exact ⟨_, rfl, d, _, _, _, .str k, rfl, rfl, X.d_MAKES, hk, ⟨t, rfl⟩, q _ sm⟩
      · have e : madeK d ks = none := by rw [hml, if_neg hks]
        rw [e] at q
        refine iteY (by rw [decide_eq_false hks]; rfl) ?_
        have hs := shown_kinds kok
        have hd : d.length ≤ 10 := wok.1
        have l1 : (" makes nothing of " : Str).length = 18 := by decide
        have l0 : (Str.empty : Str).length = 0 := by decide
        refine ⟨_, rfl, .inl ⟨d, rfl, by omega, _, rfl, by rw [app_len, l0]; omega, _, rfl, by rw [app_len, app_len, l0, l1]; omega, _, rfl, .list (ks.map .str), .lst (SqL.of (sm _ _ ha)) (shw_strs ks), ?_, ?_, ?_, by omega, _, rfl, by rw [app_len, app_len, app_len, l0, l1]; omega, (by show 1 ≤ 10; decide), q _ sm⟩⟩
        · simp only [PyData.showable]; exact PyData.showableAll_strs ks
        · simp only [PyData.hasDict]; exact noDict_strs ks
        · simp only [PyData.depth, depth_strs]; decide
end
end K3
set_option Elab.async false
set_option linter.all false
set_option maxRecDepth 100000
set_option maxHeartbeats 4000000
namespace K3
open PySem L2
/-! ### texts as lists of signs -/
theorem glue_fold : ∀ (rest : List Str) (acc : Array Nat), (rest.foldl (fun acc p => acc ++ (Str.ofString "").cps ++ p.cps) acc).toList = acc.toList ++ (rest.map (·.cps.toList)).flatten
  | [], acc => by simp
  | p :: rest, acc => by
    rw [List.foldl_cons, glue_fold rest]
    have e : (Str.ofString "").cps = #[] := by decide
    rw [e]
    simp
theorem glue_list : ∀ (zs : List Str), (Txt.join "" zs).cps.toList = (zs.map (·.cps.toList)).flatten
  | [] => by show (PySem.Builtin.Str.glued "" []).cps.toList = _; rfl
  | z :: zs => by
    show ((zs.foldl (fun acc p => acc ++ (Str.ofString "").cps ++ p.cps) z.cps)).toList = _
    rw [glue_fold zs]
    simp
theorem glue_signs (gs : List Nat) : (Txt.join "" (gs.map fun g => (⟨#[g]⟩ : Str))).cps.toList = gs := by
  rw [glue_list, List.map_map]
  induction gs with
  | nil => rfl
  | cons g gs ih => rw [List.map_cons, List.flatten_cons, ih]; rfl
theorem app_list (a b : Str) : (a ++ b).cps.toList = a.cps.toList ++ b.cps.toList := by
  show (a.cps ++ b.cps).toList = _
  simp
theorem len_list (a : Str) : a.length = a.cps.toList.length := by simp [Str.length]
theorem to_list {x : Str} {j : Nat} (h : j ≤ x.cps.toList.length) : (Txt.slice x none (some (j : Int))).cps.toList = x.cps.toList.take j := by
  have := PySem.StrLaws.sliceText_to (x := x) (j := (j : Int)) ⟨by omega, by omega⟩
  have e : Txt.slice x none (some (j : Int)) = PySem.StrLaws.sliceText x none (some (j : Int)) := rfl
  rw [e, this]
  simp
theorem from_list {x : Str} {j : Nat} (h : j ≤ x.cps.toList.length) : (Txt.slice x (some (j : Int)) none).cps.toList = x.cps.toList.drop j := by
  have := PySem.StrLaws.sliceText_from (x := x) (i := (j : Int)) ⟨by omega, by omega⟩
  have e : Txt.slice x (some (j : Int)) none = PySem.StrLaws.sliceText x (some (j : Int)) none := rfl
  rw [e, this]
  simp
  rw [List.take_of_length_le (by simp)]
theorem over_list {x : Str} {j : Int} (h : (x.length : Int) ≤ j) : Txt.slice x none (some j) = x := by
  unfold Txt.slice
  have e : (Builtin.Str.strSliceIndices none (some j) 1 x.length).length = x.length := by
    unfold Builtin.Str.strSliceIndices sliceRange
    simp only [show (1 : Int) > 0 by decide, if_true, List.length_map, List.length_range]
    split <;> (try split) <;> (try simp only [Int.ediv_one]) <;> omega
  rw [e, if_pos (by simp)]
abbrev signs36 : Str := "abcdefghijklmnopqrstuvwxyz0123456789"
theorem at_signs {m : Int} (h0 : 0 ≤ m) (h1 : m < 36) : ∃ c, atI signs36.cps.toList m = some c ∧ c ∈ signs36.cps.toList := by
  obtain ⟨k, rfl⟩ := Int.eq_ofNat_of_zero_le h0
  have hl : signs36.cps.toList.length = 36 := by decide +kernel
  exact ⟨_, atI_nat (List.getElem?_eq_getElem (by omega)), List.getElem_mem _⟩
theorem sign_in : ∀ c ∈ signs36.cps.toList, signOk c = true := by decide +kernel
def GoodT (z : Str) : Prop := z.cps.toList.length ≤ 40 ∧ ∀ c ∈ z.cps.toList, signOk c = true
def spCell (K : PySem.W.Frag) : Sp := fun vs H Q _ => ∃ (a : Addr) (ns : List Int), vs = [.ref a, .int 0] ∧ SqL K H a (ns.map V.int) ∧ ∀ n, Q (.int n) H
def spTx : Sp := fun vs H Q _ => ∃ (c : Int), vs = [.int c] ∧ ∀ (z : Str) (H' : Hp), GoodT z → Same H H' → Q (.str z) H'
def spRw : Sp := fun vs H Q _ => ∃ (c : Int), vs = [.int c] ∧ ∀ (a : Addr) (ns : List Int) (H' : Hp), H' a = some (.tup (ns.map V.int)) → ns.length ≤ 12 → (∀ n ∈ ns, 0 ≤ n ∧ n < LIM) → Same H H' → Q (.ref a) H'
section
variable {P : Program} {w : World} {K : PySem.W.Frag} {mg : Str → Option Value} {base : Heap} {T : Adr}
theorem ok_cell (X : Tx K w mg T) : FnOk P w K mg base CX0 1 T.qcellat T.d_qcellat ["_law_script", "_law_k"] (spCell K) := by
  refine X.F_qcellat.okQ sc_qcellat (fun vs H Q E h => ?_) (fun cdv A outer s H vs Q E hr h => ?_)
  · obtain ⟨a, ns, rfl, _⟩ := h
    rfl
  obtain ⟨a, ns, rfl, ha, q⟩ := h
  refine ⟨_, (qss_cons (qs_if (qt_cmpR op_lt (qv 1) (qe_callB call_len_seq rfl X.z_len PySem.boot_len (qaN (qv 0) qa_nil)) (nomark _)) (qss_one (qs_ret (qe_ix ix_list (qv 0) (qv 1) (fun _ _ => rfl)))) qss_nil) (qss_one (qs_ret qe_int))), ?_⟩
  refine ⟨_, rfl, _, rfl, a, _, rfl, .inl ha, _, _, rfl, rfl, _, rfl, iteDd (fun c => ?_) (fun c => q 0)⟩
  rw [List.length_map] at c
  exact ⟨_, rfl, _, rfl, a, _, _, .int (ns.getD (0 : Int).toNat 0), rfl, rfl, ha, at_ints (by decide) c, q _⟩
theorem ok_tx (X : Tx K w mg T) : FnOk P w K mg base CX0 1 T.qtext T.d_qtext ["_law_cell"] spTx := by
  refine X.F_qtext.okQ sc_qtext (fun vs H Q E h => ?_) (fun cdv A outer s H vs Q E hr h => ?_)
  · obtain ⟨_, rfl, _⟩ := h
    rfl
  obtain ⟨c, rfl, q⟩ := h
  refine ⟨_, (qss_cons (qs_set (i := 1) sc_qtext.nd rfl (Or.inr rfl) qe_str) (qss_cons (qs_set (i := 2) sc_qtext.nd rfl (Or.inr rfl) (qe_op op_add qe_int (qe_op op_mod (qe_op op_fdiv (qv 0) qe_int) qe_int))) (qss_one (qs_ret (qe_bm PySem.F.plainAttrs_str PySem.F.slot_str_join PySem.F.type_str_join mt_join qe_str (qaE (qe_comp (ys := ["_law_cell", "_law_signs", "_law_step"]) (js := [0, 1, 2]) rfl rfl (qi_range1 rfl X.z_range (qaB (qe_op op_mod (qv 0) qe_int) qa_nil)) (fun _ _ _ _ _ => qif_nil) (fun _ _ _ _ _ => (qe_ix ix_str (qv 2) (qe_op op_mod (qe_op op_add (qe_op op_fdiv (qv 1) qe_int) (qe_op op_mul (qv 0) (qv 3))) qe_int) (fun _ _ => rfl)))) qa_nil)))))), ?_⟩
  refine ⟨_, rfl, _, _, rfl, rfl, ⟨by decide, by decide⟩, _, _, rfl, rfl, (by show (0 : Int) < 35; decide), _, _, rfl, rfl, ?_⟩
  have c0 := Int.emod_nonneg c (show (41 : Int) ≠ 0 by decide)
  have c1 := Int.emod_lt_of_pos c (show (0 : Int) < 41 by decide)
  refine ⟨rfl, _, rfl, _, _, rfl, rfl, (by show (0 : Int) < 41; decide), _, rfl, by omega, by omega, fun D hD => ?_⟩
  refine comp_rng (fun i acc H' => ∃ gs : List Nat, acc = (gs.map fun g => (⟨#[g]⟩ : Str)).map V.str ∧ gs.length = i ∧ (∀ g ∈ gs, signOk g = true) ∧ Same H H' ∧ H' D = some (.lst acc)) (Nat.lt_of_le_of_lt (show (c % 41).toNat ≤ 1000 by omega) (by decide))
    ⟨[], rfl, rfl, (fun z hz => nomatch hz), same_new hD _, upd_same⟩ (fun i acc H' ⟨zs, e, l, _, _, d⟩ => ⟨d, by rw [e, List.length_map, List.length_map]; exact l⟩) ?_ ?_
  · rintro i m acc H' hi ⟨zs, e, l, o, sm, d⟩ hm
    refine ⟨_, rfl, _, rfl, _, _, rfl, rfl, ⟨by decide, by decide⟩, _, rfl, _, rfl, _, _, rfl, rfl, .inl ⟨by omega, by omega⟩, _, _, rfl, rfl, _, _, rfl, rfl, (by show (0 : Int) < 36; decide), ?_⟩
    obtain ⟨g, hg, hgm⟩ := at_signs (Int.emod_nonneg _ (show (36 : Int) ≠ 0 by decide)) (Int.emod_lt_of_pos (c / 1435 + (0 + (i : Int)) * (1 + c / 41 % 35)) (show (0 : Int) < 36 by decide))
    refine ⟨signs36, _, g, rfl, rfl, (by decide +kernel), hg, cstep hi hm d ⟨zs ++ [g], by rw [e, List.map_append, List.map_append]; rfl, by rw [List.length_append, l]; rfl, fun z hz => ?_, same_upd hD sm, upd_same⟩⟩
    rcases List.mem_append.mp hz with h | h
    · exact o z h
    · rw [List.mem_singleton.mp h]
      exact sign_in g hgm
  · rintro acc H' ⟨gs, e, l, o, sm, d⟩
    have hj := glue_signs gs
    refine ⟨"", D, gs.map fun g => (⟨#[g]⟩ : Str), rfl, rfl, SqL.of (by rw [d, e]), ?_, q _ H' ⟨by rw [hj]; omega, by rw [hj]; exact o⟩ sm⟩
    have z : ("" : Str).length = 0 := rfl
    have e1 : ((gs.map fun g => (⟨#[g]⟩ : Str)).map (·.length)).sum = gs.length := by
      rw [List.map_map]
      clear e l o sm d hj q
      induction gs with
      | nil => rfl
      | cons g gs ih =>
        rw [List.map_cons, List.sum_cons, ih, List.length_cons]
        show 1 + _ = _
        omega
    rw [z, e1, List.length_map]
    omega
theorem ok_rw (X : Tx K w mg T) : FnOk P w K mg base CX0 1 T.qrow T.d_qrow ["_law_cell"] spRw := by
  refine X.F_qrow.okQ sc_qrow (fun vs H Q E h => ?_) (fun cdv A outer s H vs Q E hr h => ?_)
  · obtain ⟨_, rfl, _⟩ := h
    rfl
  obtain ⟨c, rfl, q⟩ := h
  refine ⟨_, (qss_one (qs_ret (qe_callTy call_tuple_of rfl X.z_tuple PyProof.Rows.boot_tuple (qaE (qe_comp (ys := ["_law_cell"]) (js := [0]) rfl rfl (qi_range1 rfl X.z_range (qaB (qe_op op_mod (qv 0) qe_int) qa_nil)) (fun _ _ _ _ _ => qif_nil) (fun _ _ _ _ _ => (qe_op op_mod (qe_op op_add (qe_op op_add (qe_op op_fdiv (qv 1) qe_int) (qe_op op_mul (qe_op op_mul (qv 0) (qv 0)) qe_int)) (qe_op op_mul (qv 0) (qe_op op_mod (qv 1) qe_int))) (qe_op op_pow qe_int qe_int)))) qa_nil)))), ?_⟩
  have c0 := Int.emod_nonneg c (show (13 : Int) ≠ 0 by decide)
  have c1 := Int.emod_lt_of_pos c (show (0 : Int) < 13 by decide)
  refine ⟨_, rfl, _, _, rfl, rfl, (by show (0 : Int) < 13; decide), _, rfl, by omega, by omega, fun D hD => ?_⟩
  refine comp_rng (fun i acc H' => ∃ ns : List Int, acc = ns.map V.int ∧ ns.length = i ∧ (∀ n ∈ ns, 0 ≤ n ∧ n < LIM) ∧ Same H H' ∧ H' D = some (.lst acc)) (Nat.lt_of_le_of_lt (show (c % 13).toNat ≤ 1000 by omega) (by decide))
    ⟨[], rfl, rfl, (fun z hz => nomatch hz), same_new hD _, upd_same⟩ (fun i acc H' ⟨zs, e, l, _, _, d⟩ => ⟨d, by rw [e, List.length_map]; exact l⟩) ?_ ?_
  · rintro i m acc H' hi ⟨ns, e, l, o, sm, d⟩ hm
    refine ⟨_, rfl, _, _, rfl, rfl, ⟨by decide, by decide⟩, _, rfl, _, rfl, _, _, rfl, rfl, .inl ⟨by omega, by omega⟩, _, _, rfl, rfl, .inr ⟨by decide, by decide⟩, _, _, rfl, rfl, _, rfl, _, rfl, _, _, rfl, rfl, (by show (0 : Int) < 97; decide), _, _, rfl, rfl, .inl ⟨by omega, by omega⟩, _, _, rfl, rfl, ?_⟩
    refine ⟨_, _, rfl, rfl, ⟨by decide, by decide, by decide⟩, _, _, rfl, rfl, (by show (0 : Int) < 10 ^ Int.toNat 18; decide), cstep hi hm d ⟨ns ++ [_], by rw [e, List.map_append]; rfl, by rw [List.length_append, l]; rfl, fun z hz => ?_, same_upd hD sm, upd_same⟩⟩
    rcases List.mem_append.mp hz with h | h
    · exact o z h
    · rw [List.mem_singleton.mp h]
      exact ⟨Int.emod_nonneg _ (by decide), Int.emod_lt_of_pos _ (by decide)⟩
  · rintro acc H' ⟨ns, e, l, o, sm, d⟩
    refine ⟨D, acc, rfl, .inl ⟨SqL.of d, fun t ht => q t ns _ ?_ (by omega) o (sm.trans (same_new ht _))⟩⟩
    rw [upd_same, e]
end
end K3
set_option Elab.async false
set_option linter.all false
set_option maxRecDepth 100000
set_option maxHeartbeats 4000000
namespace K3
open PySem L2
/-! ### the things, with what they are -/
def Own (k : Str) (n t r : Bool) : Prop := n = decide (k = "num") ∧ t = decide (k = "text") ∧ r = decide (k = "row")
def PairOk (H : Hp) (v : V) : Prop := ∃ a x k n t r, v = .ref a ∧ H a = some (.tup [x, .str k]) ∧ Thing H x n t r ∧ Own k n t r
theorem PairOk.same {H H' : Hp} {v : V} (s : Same H H') (h : PairOk H v) : PairOk H' v := by
  obtain ⟨a, x, k, n, t, r, e, ha, th, o⟩ := h
  exact ⟨a, x, k, n, t, r, e, s _ _ ha, th.same s, o⟩
theorem pair_of {H H' : Hp} {p : Addr} {x : V} {k : Str} {n t r : Bool} (h : H p = some (.tup [x, .str k])) (s : Same H H') (th : Thing H' x n t r) (o : Own k n t r) : PairOk H' (.ref p) := ⟨p, x, k, n, t, r, rfl, s _ _ h, th, o⟩
def spPairs : Sp := fun vs H Q _ => ∃ (c : Int), vs = [.int c] ∧ ∀ (l : Addr) (ps : List V) (H' : Hp), Same H H' → H' l = some (.lst ps) → ps.length ≤ 50 → (∀ p ∈ ps, PairOk H' p) → Q (.ref l) H'
theorem qe_dnewK {X : Cx} {pos : Pos} : QE X (.Dict [] [] pos) tDNewK := ⟨pe_dnewK⟩
theorem text_yes {z : Str} (h : GoodT z) : textB z = true := by
  unfold textB
  rw [Bool.and_eq_true, decide_eq_true_eq, List.all_eq_true, len_list]
  exact h
theorem text_odd {z : Str} {c : Nat} (h : c ∈ z.cps.toList) (hc : signOk c = false) : textB z = false := by
  unfold textB
  rw [Bool.and_eq_false_iff]
  right
  rw [List.all_eq_false]
  exact ⟨c, h, by rw [hc]; decide⟩
theorem text_long {z : Str} (h : 40 < z.cps.toList.length) : textB z = false := by
  unfold textB
  rw [decide_eq_false (by rw [len_list]; omega), Bool.false_and]
theorem own_text {b : Bool} (h : b = true) : Own "text" false b false := ⟨by decide, by rw [h]; decide, by decide⟩
theorem own_none : Own "" false false false := ⟨by decide, by decide, by decide⟩
theorem zs_list : (Txt.mul "z" 40).cps.toList = List.replicate 40 122 := by decide +kernel
theorem sevens : (Txt.mul "7" 41).cps.toList = List.replicate 41 55 := by decide +kernel
theorem fitsS {n : Nat} (h : n ≤ 1000) : n ≤ sizeLine := fits2 (by omega)
/-! ### a list that grows, the rest stays -/
def hide (H : Hp) (l : Addr) : Hp := fun b => if b = l then none else H b
theorem hide_ne {H : Hp} {l b : Addr} (h : b ≠ l) : hide H l b = H b := if_neg h
theorem hide_self {H : Hp} {l : Addr} : hide H l l = none := if_pos rfl
theorem hide_at {H : Hp} {l b : Addr} {o : HO} (h : hide H l b = some o) : b ≠ l ∧ H b = some o := by
  by_cases e : b = l
  · rw [e, hide_self] at h; cases h
  · rw [hide_ne e] at h; exact ⟨e, h⟩
theorem hide_same {H : Hp} {l : Addr} : Same (hide H l) H := fun b o h => (hide_at h).2
theorem hide_grow {H' H'' : Hp} {l t : Addr} {o o2 : HO} (s : Same H' H'') (ht : H'' t = none) : Same (hide H' l) (hide (upd (upd H'' t o) l o2) l) := fun b u h => by
  obtain ⟨n, h⟩ := hide_at h
  have h2 := s _ _ h
  rw [hide_ne n, upd_ne n, upd_ne (ne_of_none h2 ht)]
  exact h2
theorem hide_new {H : Hp} {l : Addr} {o : HO} (hl : H l = none) : Same H (hide (upd H l o) l) := fun b u h => by
  have n := ne_of_none h hl
  rw [hide_ne n, upd_ne n]
  exact h
theorem hide_mono {H H' : Hp} {l : Addr} (s : Same H H') : Same (hide H l) (hide H' l) := fun b u h => by
  obtain ⟨n, h⟩ := hide_at h
  rw [hide_ne n]
  exact s _ _ h
theorem pair_new {H'' : Hp} {l t : Addr} {x : V} {k : Str} {n tt r : Bool} {ps : List V} {o2 : HO} (ht : H'' t = none) (hl : H'' l = some (.lst ps)) (th : Thing (hide H'' l) x n tt r) (o : Own k n tt r) : PairOk (hide (upd (upd H'' t (.tup [x, .str k])) l o2) l) (.ref t) := by
  have nl : t ≠ l := fun z => by rw [z, hl] at ht; cases ht
  refine ⟨t, x, k, n, tt, r, rfl, ?_, th.same (hide_grow (Same.refl _) ht), o⟩
  rw [hide_ne nl, upd_ne nl, upd_same]
theorem to_list' {x : Str} {k : Int} (j : Nat) (e : k = (j : Int)) (h : j ≤ x.cps.toList.length) : (Txt.slice x none (some k)).cps.toList = x.cps.toList.take j := by
  rw [e]
  exact to_list h
theorem from_list' {x : Str} {k : Int} (j : Nat) (e : k = (j : Int)) (h : j ≤ x.cps.toList.length) : (Txt.slice x (some k) none).cps.toList = x.cps.toList.drop j := by
  rw [e]
  exact from_list h
def OddOk (o : Str) : Prop := ∃ c, o = ⟨#[c]⟩ ∧ signOk c = false
theorem odd_A : OddOk "A" := ⟨65, by decide, by decide +kernel⟩
theorem odd_sp : OddOk " " := ⟨32, by decide, by decide +kernel⟩
theorem odd_mi : OddOk "-" := ⟨45, by decide, by decide +kernel⟩
theorem odd_six {m : Int} (h0 : 0 ≤ m) (h1 : m < 6) : ∃ o, atI [V.str ".", .str "\n", .str "{", .str "`", .str "/", .str ":"] m = some (.str o) ∧ OddOk o := by
  have : m = 0 ∨ m = 1 ∨ m = 2 ∨ m = 3 ∨ m = 4 ∨ m = 5 := by omega
  rcases this with rfl | rfl | rfl | rfl | rfl | rfl
  · exact ⟨".", rfl, 46, by decide, by decide +kernel⟩
  · exact ⟨"\n", rfl, 10, by decide, by decide +kernel⟩
  · exact ⟨"{", rfl, 123, by decide, by decide +kernel⟩
  · exact ⟨"`", rfl, 96, by decide, by decide +kernel⟩
  · exact ⟨"/", rfl, 47, by decide, by decide +kernel⟩
  · exact ⟨":", rfl, 58, by decide, by decide +kernel⟩
section
variable {P : Program} {w : World} {K : PySem.W.Frag} {mg : Str → Option Value} {base : Heap} {T : Adr}
theorem ok_texts (X : Tx K w mg T) : FnOk P w K mg base CX0 2 T.qtexts T.d_qtexts ["_law_cell"] spPairs := by
  have G_qtext := ok_tx (P := P) (w := w) (base := base) X
  refine X.F_qtexts.okQ sc_qtexts (fun vs H Q E h => ?_) (fun cdv A outer s H vs Q E hr h => ?_)
  · obtain ⟨_, rfl, _⟩ := h
    rfl
  obtain ⟨c, rfl, q⟩ := h
  refine ⟨_, (qss_cons (qs_set (i := 1) sc_qtexts.nd rfl (Or.inl rfl) (qe_call G_qtext hr rfl X.m_qtext X.F_qtext.kp X.b_qtext .nil pass0 (qaN (qv 0) qa_nil))) (qss_cons (qs_set (i := 2) sc_qtexts.nd rfl (Or.inl rfl) (qe_op op_mod (qe_op op_fdiv (qv 0) qe_int) (qe_op op_add (qe_callB call_len_str rfl X.z_len PySem.boot_len (qaN (qv 1) qa_nil)) qe_int))) (qss_cons (qs_set (i := 3) sc_qtexts.nd rfl (Or.inl rfl) (qe_lst (qaT (qe_tup (qaN (qv 1) (qaC qe_str qa_nil))) (qaT (qe_tup (qaC qe_str (qaC qe_str qa_nil))) (qaT (qe_tup (qaS (qe_slice sl_str (qe_op op_add_str (qv 1) (qe_op op_rep_str qe_str qe_int)) qo_none (qo_some qe_int)) (qaC qe_str qa_nil))) (qaT (qe_tup (qaS (qe_slice sl_str (qe_op op_add_str (qv 1) (qe_op op_rep_str qe_str qe_int)) qo_none (qo_some qe_int)) (qaC qe_str qa_nil))) qa_nil)))))) (qss_cons (qs_for PassesOwn.never rfl (qi_list (qe_lst (qaC qe_str (qaC qe_str (qaC qe_str (qaS (qe_ix ix_list (qe_lst (qaC qe_str (qaC qe_str (qaC qe_str (qaC qe_str (qaC qe_str (qaC qe_str qa_nil))))))) (qe_op op_mod (qe_op op_fdiv (qv 0) qe_int) qe_int) (fun _ _ => rfl)) qa_nil)))))) (qg_name (i := 4) sc_qtexts.nd rfl (Or.inl rfl)) (qss_one (qs_expr (qe_bm PySem.F.plainAttrs_list PySem.F.slot_list_append PySem.F.type_list_append mt_append (qv 3) (qaT (qe_tup (qaS (qe_slice sl_str (qe_op op_add_str (qe_op op_add_str (qe_slice sl_str (qv 1) qo_none (qo_some (qv 2))) (qv 4)) (qe_slice sl_str (qv 1) (qo_some (qv 2)) qo_none)) qo_none (qo_some (qe_op op_add qe_int (qe_callB call_len_str rfl X.z_len PySem.boot_len (qaN (qv 4) qa_nil))))) (qaC qe_str qa_nil))) qa_nil))))) (qss_one (qs_ret (qv 3))))))), ?_⟩
  refine ⟨_, rfl, _, rfl, fun z H1 gz s1 => ?_⟩
  have hz : z.length ≤ 40 := by rw [len_list]; exact gz.1
  have hp : (0 : Int) < (z.length : Int) + 1 := by omega
  have a0 := Int.emod_nonneg (c / 41) (show ((z.length : Int) + 1) ≠ 0 by omega)
  have a1 := Int.emod_lt_of_pos (c / 41) hp
  obtain ⟨at', hat⟩ := Int.eq_ofNat_of_zero_le a0
  refine ⟨_, rfl, _, _, rfl, rfl, ⟨by decide, by decide⟩, _, rfl, z, rfl, fitsS (by omega), _, _, rfl, rfl, _, _, rfl, rfl, hp, ?_⟩
  have lm : (Txt.mul "z" 40).length = 40 := by rw [len_list, zs_list]; rfl
  have l7 : (Txt.mul "7" 41).length = 41 := by rw [len_list, sevens]; rfl
  refine ⟨_, rfl, (by show 2 ≤ sizeLine; decide), fun p1 h1 => ⟨(by show 2 ≤ sizeLine; decide), fun p2 h2 => ?_⟩⟩
  refine ⟨_, rfl, "z", 40, rfl, rfl, by decide, by decide, by decide, _, _, rfl, rfl, by rw [lm]; exact fitsS (by omega), _, rfl, _, rfl, by rw [app_len, lm]; exact fitsS (by omega), (by show 2 ≤ sizeLine; decide), fun p3 h3 => ?_⟩
  refine ⟨_, rfl, "7", 41, rfl, rfl, by decide, by decide, by decide, _, _, rfl, rfl, by rw [l7]; exact fitsS (by omega), _, rfl, _, rfl, by rw [app_len, l7]; exact fitsS (by omega), (by show 2 ≤ sizeLine; decide), fun p4 h4 => ⟨(by show 4 ≤ sizeLine; decide), fun l hl => ?_⟩⟩
  -- the four first ones
  have S1 : Same H1 (upd H1 p1 _) := same_new h1 (.tup [.str z, .str "text"])
  have S2 := same_new h2 (.tup [.str "", .str "text"])
  have S3 := same_new h3 (.tup [.str (Txt.slice (z ++ Txt.mul "z" 40) none (some 40)), .str "text"])
  have S4 := same_new h4 (.tup [.str (Txt.slice (z ++ Txt.mul "7" 41) none (some 41)), .str ""])
  have tz : (z ++ Txt.mul "z" 40).cps.toList = z.cps.toList ++ List.replicate 40 122 := by rw [app_list, zs_list]
  have t7 : (z ++ Txt.mul "7" 41).cps.toList = z.cps.toList ++ List.replicate 41 55 := by rw [app_list, sevens]
  have e3 : (Txt.slice (z ++ Txt.mul "z" 40) none (some 40)).cps.toList = (z.cps.toList ++ List.replicate 40 122).take 40 := by
    rw [← tz]
    exact to_list' 40 rfl (by rw [tz, List.length_append, List.length_replicate]; omega)
  have e4 : (Txt.slice (z ++ Txt.mul "7" 41) none (some 41)).cps.toList = (z.cps.toList ++ List.replicate 41 55).take 41 := by
    rw [← t7]
    exact to_list' 41 rfl (by rw [t7, List.length_append, List.length_replicate]; omega)
  have ok3 : textB (Txt.slice (z ++ Txt.mul "z" 40) none (some 40)) = true := text_yes ⟨by rw [e3, List.length_take]; omega, fun g hg => by
    rw [e3] at hg
    rcases List.mem_append.mp (List.mem_of_mem_take hg) with h | h
    · exact gz.2 g h
    · rw [List.eq_of_mem_replicate h]; decide +kernel⟩
  have no4 : textB (Txt.slice (z ++ Txt.mul "7" 41) none (some 41)) = false := text_long (by rw [e4, List.length_take, List.length_append, List.length_replicate]; omega)
  have l3 : (Txt.slice (z ++ Txt.mul "z" 40) none (some 40)).length ≤ 1000 := by rw [len_list, e3, List.length_take]; omega
  have l4 : (Txt.slice (z ++ Txt.mul "7" 41) none (some 41)).length ≤ 1000 := by rw [len_list, e4, List.length_take]; omega
  have first : ∀ (B : Hp), Same (upd (upd (upd (upd H1 p1 (.tup [.str z, .str "text"])) p2 (.tup [.str "", .str "text"])) p3 (.tup [.str (Txt.slice (z ++ Txt.mul "z" 40) none (some 40)), .str "text"])) p4 (.tup [.str (Txt.slice (z ++ Txt.mul "7" 41) none (some 41)), .str ""])) B →
      ∀ p ∈ [V.ref p1, .ref p2, .ref p3, .ref p4], PairOk B p := fun B sB p hp => by
    simp only [List.mem_cons, List.mem_nil_iff, or_false] at hp
    rcases hp with rfl | rfl | rfl | rfl
    · exact pair_of upd_same (S2.trans (S3.trans (S4.trans sB))) (.str z (by omega)) (own_text (text_yes gz))
    · exact pair_of upd_same (S3.trans (S4.trans sB)) (.str "" (by decide)) (own_text (by decide +kernel))
    · exact pair_of upd_same (S4.trans sB) (.str _ l3) (own_text ok3)
    · refine pair_of upd_same sB (.str _ l4) ?_
      rw [no4]
      exact own_none
  have six := odd_six (Int.emod_nonneg (c / 7) (show (6 : Int) ≠ 0 by decide)) (Int.emod_lt_of_pos (c / 7) (show (0 : Int) < 6 by decide))
  obtain ⟨o4, ho4, ok4⟩ := six
  refine ⟨(by show 6 ≤ sizeLine; decide), fun q1 hq1 => ⟨_, rfl, _, _, rfl, rfl, ⟨by decide, by decide⟩, _, _, rfl, rfl, (by show (0 : Int) < 6; decide), q1, _, _, _, rfl, rfl, SqL.of upd_same, ho4, (by show 4 ≤ sizeLine; decide), fun q2 hq2 => ?_⟩⟩
  have odds : ∀ o ∈ [V.str "A", .str " ", .str "-", .str o4], ∃ c, o = .str ⟨#[c]⟩ ∧ signOk c = false := fun o ho => by
    simp only [List.mem_cons, List.mem_nil_iff, or_false] at ho
    rcases ho with rfl | rfl | rfl | rfl
    · obtain ⟨c, e, h⟩ := odd_A; exact ⟨c, by rw [e], h⟩
    · obtain ⟨c, e, h⟩ := odd_sp; exact ⟨c, by rw [e], h⟩
    · obtain ⟨c, e, h⟩ := odd_mi; exact ⟨c, by rw [e], h⟩
    · obtain ⟨c, e, h⟩ := ok4; exact ⟨c, by rw [e], h⟩
  have S5 := same_new hq1 (.lst [.str ".", .str "\n", .str "{", .str "`", .str "/", .str ":"])
  have S6 := same_new hq2 (.lst [.str "A", .str " ", .str "-", .str o4])
  have b0 := hide_new (o := .lst [.ref p1, .ref p2, .ref p3, .ref p4]) hl
  have bx := b0.trans (hide_mono (l := l) (S5.trans S6))
  have xl := (S5.trans S6) _ _ (upd_same (a := l) (o := .lst [.ref p1, .ref p2, .ref p3, .ref p4]))
  have xq := upd_same (H := upd (upd (upd (upd (upd (upd H1 p1 (.tup [.str z, .str "text"])) p2 (.tup [.str "", .str "text"])) p3 (.tup [.str (Txt.slice (z ++ Txt.mul "z" 40) none (some 40)), .str "text"])) p4 (.tup [.str (Txt.slice (z ++ Txt.mul "7" 41) none (some 41)), .str ""])) l (.lst [.ref p1, .ref p2, .ref p3, .ref p4])) q1 (.lst [.str ".", .str "\n", .str "{", .str "`", .str "/", .str ":"])) (a := q2) (o := .lst [.str "A", .str " ", .str "-", .str o4])
  have xp := first _ bx
  have sx := s1.trans (S1.trans (S2.trans (S3.trans (S4.trans bx))))
  generalize upd (upd (upd (upd (upd (upd (upd H1 p1 (.tup [.str z, .str "text"])) p2 (.tup [.str "", .str "text"])) p3 (.tup [.str (Txt.slice (z ++ Txt.mul "z" 40) none (some 40)), .str "text"])) p4 (.tup [.str (Txt.slice (z ++ Txt.mul "7" 41) none (some 41)), .str ""])) l (.lst [.ref p1, .ref p2, .ref p3, .ref p4])) q1 (.lst [.str ".", .str "\n", .str "{", .str "`", .str "/", .str ":"])) q2 (.lst [.str "A", .str " ", .str "-", .str o4]) = Hx at bx xl xq xp sx ⊢
  have nq : q2 ≠ l := fun e => by rw [e, xl] at xq; cases xq
  have hatl : at' ≤ z.cps.toList.length := by rw [← len_list]; omega
  refine ⟨q2, rfl, ⟨_, SqL.of xq⟩, for_list (K := K) (a := q2) (xs := [.str "A", .str " ", .str "-", .str o4]) (fun i σ H' => (∃ x, σ = [some (.int c), some (.str z), some (.int (c / 41 % ((z.length : Int) + 1))), some (.ref l), x]) ∧ Same (hide Hx l) (hide H' l) ∧ ∃ ps, H' l = some (.lst ps) ∧ ps.length = 4 + i ∧ ∀ p ∈ ps, PairOk (hide H' l) p)
    ⟨⟨none, rfl⟩, Same.refl _, _, xl, rfl, xp⟩ (fun i σ H' _ ⟨_, sm, _⟩ => SqL.of (hide_at (sm _ _ (by rw [hide_ne nq]; exact xq))).2) ?_ ?_⟩
  · rintro i x σ H' hx ⟨⟨x0, rfl⟩, sm, ps, hps, hlen, hok⟩
    obtain ⟨g, rfl, hg⟩ := odds x (List.mem_of_getElem? hx)
    have hi : i < 4 := (List.getElem?_eq_some_iff.mp hx).1
    have la : (Txt.slice z none (some (c / 41 % ((z.length : Int) + 1)))).cps.toList = z.cps.toList.take at' := to_list' at' hat hatl
    have lb : (Txt.slice z (some (c / 41 % ((z.length : Int) + 1))) none).cps.toList = z.cps.toList.drop at' := from_list' at' hat hatl
    have ll : (Txt.slice z none (some (c / 41 % ((z.length : Int) + 1))) ++ (⟨#[g]⟩ : Str) ++ Txt.slice z (some (c / 41 % ((z.length : Int) + 1))) none).cps.toList = z.cps.toList.take at' ++ [g] ++ z.cps.toList.drop at' := by
      rw [app_list, app_list, la, lb]
    have l1 : (Txt.slice z none (some (c / 41 % ((z.length : Int) + 1)))).length ≤ 40 := by rw [len_list, la, List.length_take]; omega
    have l2 : (Txt.slice z (some (c / 41 % ((z.length : Int) + 1))) none).length ≤ 40 := by
      rw [len_list, lb, List.length_drop]
      have := gz.1
      omega
    have lg : (⟨#[g]⟩ : Str).length = 1 := rfl
    have lt : (Txt.slice z none (some (c / 41 % ((z.length : Int) + 1))) ++ (⟨#[g]⟩ : Str) ++ Txt.slice z (some (c / 41 % ((z.length : Int) + 1))) none).length ≤ 41 := by
      rw [len_list, ll, List.length_append, List.length_append, List.length_take, List.length_drop, List.length_singleton]
      have := gz.1
      omega
    have ov := over_list (x := Txt.slice z none (some (c / 41 % ((z.length : Int) + 1))) ++ (⟨#[g]⟩ : Str) ++ Txt.slice z (some (c / 41 % ((z.length : Int) + 1))) none) (j := 40 + ((⟨#[g]⟩ : Str).length : Int)) (by rw [lg]; omega)
    have no : textB (Txt.slice z none (some (c / 41 % ((z.length : Int) + 1))) ++ (⟨#[g]⟩ : Str) ++ Txt.slice z (some (c / 41 % ((z.length : Int) + 1))) none) = false := text_odd (c := g) (by rw [ll]; simp) hg
    refine ⟨_, rfl, .inl ⟨rfl, _, SqL.of hps⟩, _, rfl, _, rfl, _, rfl, _, rfl, fitsS (by omega), _, rfl, _, _, rfl, rfl, by rw [lg]; exact fitsS (by omega), _, rfl, _, rfl, _, rfl, _, rfl, fitsS (by omega), _, _, rfl, rfl, by rw [app_len, lg]; exact fitsS (by omega), _, rfl, _, rfl, by rw [lg]; decide, _, _, rfl, rfl, _, rfl, _, rfl, fitsS (by omega), (by show 2 ≤ sizeLine; decide), fun t ht => ?_⟩
    rw [ov]
    have nt : t ≠ l := fun e => by rw [e, hps] at ht; cases ht
    refine ⟨l, ps, _, rfl, rfl, by rw [upd_ne nt.symm]; exact hps, fitsL (by omega), ⟨_, rfl⟩, sm.trans (hide_grow (Same.refl _) ht), ps ++ [.ref t], upd_same, by rw [List.length_append, hlen]; rfl, fun p hp => ?_⟩
    rcases List.mem_append.mp hp with h | h
    · exact (hok p h).same (hide_grow (Same.refl _) ht)
    · rw [List.mem_singleton.mp h]
      exact pair_new ht hps (.str _ (by omega)) (by rw [no]; exact own_none)
  · rintro σ H' ⟨⟨x0, rfl⟩, sm, ps, hps, hlen, hok⟩
    exact ⟨_, rfl, q l ps H' ((sx.trans sm).trans hide_same) hps (by rw [hlen]; show 4 + 4 ≤ 50; decide) fun p hp => (hok p hp).same hide_same⟩
end
end K3
set_option Elab.async false
set_option linter.all false
set_option maxRecDepth 100000
set_option maxHeartbeats 4000000
namespace K3
open PySem L2
theorem cut_to {xs : List V} {k : Int} (j : Nat) (e : k = (j : Int)) : cutV xs none (some k) = xs.take j := by rw [e]; exact cut_take' xs j
theorem cut_from {xs : List V} {k : Int} (j : Nat) (e : k = (j : Int)) : cutV xs (some k) none = xs.drop j := by rw [e]; exact cut_drop' xs j
theorem num_yes {n : Int} (h : 0 ≤ n ∧ n < LIM) : numV (.int n) = true := by
  show (decide (0 ≤ n) && decide (n < LIM)) = true
  rw [decide_eq_true h.1, decide_eq_true h.2]
  rfl
theorem row_yes {xs : List V} (h : xs.length ≤ 12) (hx : ∀ x ∈ xs, numV x = true) : rowB xs = true := by
  unfold rowB
  rw [decide_eq_true h, Bool.true_and, List.all_eq_true]
  exact hx
theorem row_long {xs : List V} (h : 12 < xs.length) : rowB xs = false := by
  unfold rowB
  rw [decide_eq_false (by omega), Bool.false_and]
theorem row_odd {xs : List V} {x : V} (h : x ∈ xs) (hx : numV x = false) : rowB xs = false := by
  unfold rowB
  rw [Bool.and_eq_false_iff]
  right
  rw [List.all_eq_false]
  exact ⟨x, h, by rw [hx]; decide⟩
theorem own_row {b : Bool} (h : b = true) : Own "row" false false b := ⟨by decide, by decide, by rw [h]; decide⟩
theorem own_num {b : Bool} (h : b = true) : Own "num" b false false := ⟨by rw [h]; decide, by decide, by decide⟩
theorem ty_int {H : Hp} (n : Int) : Ty H (.int n) := .inl (.inr (.inr (.inl ⟨n, rfl⟩)))
theorem ty_ints {H : Hp} {ns : List Int} {x : V} (h : x ∈ ns.map V.int) : Ty H x := by
  obtain ⟨n, _, rfl⟩ := List.mem_map.mp h
  exact ty_int n
theorem num_ints {ns : List Int} (hn : ∀ n ∈ ns, 0 ≤ n ∧ n < LIM) {x : V} (h : x ∈ ns.map V.int) : numV x = true := by
  obtain ⟨n, m, rfl⟩ := List.mem_map.mp h
  exact num_yes (hn n m)
theorem rep12 : (List.replicate (12 : Int).toNat [V.int 5]).flatten = List.replicate 12 (V.int 5) := by decide
theorem rep13 : (List.replicate (13 : Int).toNat [V.int 0]).flatten = List.replicate 13 (V.int 0) := by decide
section
variable {P : Program} {w : World} {K : PySem.W.Frag} {mg : Str → Option Value} {base : Heap} {T : Adr}
theorem ok_rows (X : Tx K w mg T) : FnOk P w K mg base CX0 2 T.qrows T.d_qrows ["_law_cell"] spPairs := by
  have G_qrow := ok_rw (P := P) (w := w) (base := base) X
  refine X.F_qrows.okQ sc_qrows (fun vs H Q E h => ?_) (fun cdv A outer s H vs Q E hr h => ?_)
  · obtain ⟨_, rfl, _⟩ := h
    rfl
  obtain ⟨c, rfl, q⟩ := h
  refine ⟨_, (qss_cons (qs_set (i := 1) sc_qrows.nd rfl (Or.inl rfl) (qe_call G_qrow hr rfl X.m_qrow X.F_qrow.kp X.b_qrow .nil pass0 (qaN (qv 0) qa_nil))) (qss_cons (qs_set (i := 2) sc_qrows.nd rfl (Or.inl rfl) (qe_op op_mod (qe_op op_fdiv (qv 0) qe_int) (qe_op op_add (qe_callB call_len_seq rfl X.z_len PySem.boot_len (qaN (qv 1) qa_nil)) qe_int))) (qss_cons (qs_set (i := 3) sc_qrows.nd rfl (Or.inl rfl) (qe_lst (qaT (qe_tup (qaN (qv 1) (qaC qe_str qa_nil))) (qaT (qe_tup (qaT (qe_tup qa_nil) (qaC qe_str qa_nil))) (qaT (qe_tup (qaS (qe_slice sl_tupA (qe_op op_catA (qv 1) (qe_op op_repT (qe_tup (qaC qe_int qa_nil)) qe_int)) qo_none (qo_some qe_int)) (qaC qe_str qa_nil))) (qaT (qe_tup (qaS (qe_slice sl_tupA (qe_op op_catA (qv 1) (qe_op op_repT (qe_tup (qaC qe_int qa_nil)) qe_int)) qo_none (qo_some qe_int)) (qaC qe_str qa_nil))) qa_nil)))))) (qss_cons (qs_for PassesOwn.never rfl (qi_list (qe_lst (qaC qe_bl (qaC qe_non (qaC qe_str (qaU (qe_un un_neg qe_int) (qaB (qe_op op_pow qe_int qe_int) (qaT (qe_tup (qaC qe_int qa_nil)) qa_nil)))))))) (qg_name (i := 4) sc_qrows.nd rfl (Or.inl rfl)) (qss_one (qs_expr (qe_bm PySem.F.plainAttrs_list PySem.F.slot_list_append PySem.F.type_list_append mt_append (qv 3) (qaT (qe_tup (qaB (qe_op op_catA (qe_op op_catA (qe_slice sl_tupA (qv 1) qo_none (qo_some (qv 2))) (qe_tup (qaN (qv 4) qa_nil))) (qe_slice sl_tupA (qv 1) (qo_some (qv 2)) qo_none)) (qaC qe_str qa_nil))) qa_nil))))) (qss_one (qs_ret (qe_op op_cat (qv 3) (qe_lst (qaT (qe_tup (qaK (qe_callTy call_list_of rfl X.z_list PyProof.Rows.boot_list (qaN (qv 1) qa_nil)) (qaC qe_str qa_nil))) (qaT (qe_tup (qaL (qe_lst qa_nil) (qaC qe_str qa_nil))) qa_nil)))))))))), ?_⟩
  refine ⟨_, rfl, _, rfl, fun g ns H1 hg hz hn s1 => ?_⟩
  have hln : (ns.map V.int).length = ns.length := List.length_map _
  have hp : (0 : Int) < (((ns.map V.int).length : Nat) : Int) + 1 := by omega
  have a0 := Int.emod_nonneg (c / 13) (show ((((ns.map V.int).length : Nat) : Int) + 1) ≠ 0 by omega)
  have a1 := Int.emod_lt_of_pos (c / 13) hp
  obtain ⟨at', hat⟩ := Int.eq_ofNat_of_zero_le a0
  refine ⟨_, rfl, _, _, rfl, rfl, ⟨by decide, by decide⟩, _, rfl, g, _, rfl, .inr (SqT.of hg), _, _, rfl, rfl, _, _, rfl, rfl, hp, ?_⟩
  refine ⟨_, rfl, (by show 2 ≤ sizeLine; decide), fun p1 h1 => ⟨(by show 0 ≤ sizeLine; decide), fun e0 he0 => ⟨(by show 2 ≤ sizeLine; decide), fun p2 h2 => ⟨_, rfl, (by show 1 ≤ sizeLine; decide), fun f1 hf1 => ?_⟩⟩⟩⟩
  have S1 := same_new h1 (.tup [.ref g, .str "row"])
  have S2 := same_new he0 (.tup [])
  have S3 := same_new h2 (.tup [.ref e0, .str "row"])
  have S4 := same_new hf1 (.tup [.int 5])
  refine ⟨f1, 12, _, rfl, rfl, SqT.of upd_same, by simp, by decide, by decide, (by show 1 * 12 ≤ sizeLine; decide), fun r1 hr1 => ?_⟩
  have S5 := same_new hr1 (.tup (List.replicate (12 : Int).toNat [V.int 5]).flatten)
  have g5 := (S1.trans (S2.trans (S3.trans (S4.trans S5)))) _ _ hg
  have f5 := upd_same (H := (upd (upd (upd (upd H1 p1 (.tup [.ref g, .str "row"])) e0 (.tup [])) p2 (.tup [.ref e0, .str "row"])) f1 (.tup [.int 5]))) (a := r1) (o := .tup (List.replicate (12 : Int).toNat [V.int 5]).flatten)
  refine ⟨g, r1, _, _, rfl, rfl, g5, f5, by rw [rep12, List.length_replicate]; exact fitsS (by omega), fun c1 Hc sc hc => ⟨_, rfl, c1, _, rfl, hc, fun d1 Hd sd hd => ⟨(by show 2 ≤ sizeLine; decide), fun p3 h3 => ⟨_, rfl, (by show 1 ≤ sizeLine; decide), fun f2 hf2 => ?_⟩⟩⟩⟩
  have S6 := same_new h3 (.tup [.ref d1, .str "row"])
  have S7 := same_new hf2 (.tup [.int 0])
  refine ⟨f2, 13, _, rfl, rfl, SqT.of upd_same, by simp, by decide, by decide, (by show 1 * 13 ≤ sizeLine; decide), fun r2 hr2 => ?_⟩
  have S8 := same_new hr2 (.tup (List.replicate (13 : Int).toNat [V.int 0]).flatten)
  have g8 := (sc.trans (sd.trans (S6.trans (S7.trans S8)))) _ _ g5
  have f8 := upd_same (H := upd (upd Hd p3 (.tup [.ref d1, .str "row"])) f2 (.tup [.int 0])) (a := r2) (o := .tup (List.replicate (13 : Int).toNat [V.int 0]).flatten)
  refine ⟨g, r2, _, _, rfl, rfl, g8, f8, by rw [rep13, List.length_replicate]; exact fitsS (by omega), fun c2 He se hc2 => ⟨_, rfl, c2, _, rfl, hc2, fun d2 Hf sf hd2 => ⟨(by show 2 ≤ sizeLine; decide), fun p4 h4 => ⟨(by show 4 ≤ sizeLine; decide), fun l hl => ?_⟩⟩⟩⟩
  have S9 := same_new h4 (.tup [.ref d2, .str ""])
  rw [cut_to (k := 12) 12 rfl, rep12] at hd
  rw [cut_to (k := 13) 13 rfl, rep13] at hd2
  have k8 : Same (upd (upd (upd H1 p1 (.tup [.ref g, .str "row"])) e0 (.tup [])) p2 (.tup [.ref e0, .str "row"])) (upd Hf p4 (.tup [.ref d2, .str ""])) := S4.trans (S5.trans (sc.trans (sd.trans (S6.trans (S7.trans (S8.trans (se.trans (sf.trans S9))))))))
  have k3 : Same (upd Hd p3 (.tup [.ref d1, .str "row"])) (upd Hf p4 (.tup [.ref d2, .str ""])) := S7.trans (S8.trans (se.trans (sf.trans S9)))
  have gA := (sf.trans S9) _ _ (se _ _ g8)
  have first : ∀ (B : Hp), Same (upd Hf p4 (.tup [.ref d2, .str ""])) B → ∀ p ∈ [V.ref p1, .ref p2, .ref p3, .ref p4], PairOk B p := fun B sB p hp => by
    simp only [List.mem_cons, List.mem_nil_iff, or_false] at hp
    rcases hp with rfl | rfl | rfl | rfl
    · refine pair_of upd_same (S2.trans (S3.trans (k8.trans sB))) (.tup g _ (sB _ _ gA) (by omega) fun x hx => ty_ints hx) (own_row (row_yes (by omega) fun x hx => num_ints hn hx))
    · refine pair_of upd_same (k8.trans sB) (.tup e0 [] ((S3.trans (k8.trans sB)) _ _ upd_same) (by decide) fun x hx => nomatch hx) (own_row (by decide))
    · refine pair_of upd_same (k3.trans sB) (.tup d1 _ ((S6.trans (k3.trans sB)) _ _ hd) (by rw [List.length_take]; omega) fun x hx => ?_) (own_row (row_yes (by rw [List.length_take]; omega) fun x hx => ?_))
      · rcases List.mem_append.mp (List.mem_of_mem_take hx) with h | h
        · exact ty_ints h
        · rw [List.eq_of_mem_replicate h]; exact ty_int 5
      · rcases List.mem_append.mp (List.mem_of_mem_take hx) with h | h
        · exact num_ints hn h
        · rw [List.eq_of_mem_replicate h]; decide
    · refine pair_of upd_same sB (.tup d2 _ ((S9.trans sB) _ _ hd2) (by rw [List.length_take]; omega) fun x hx => ?_) ?_
      · rcases List.mem_append.mp (List.mem_of_mem_take hx) with h | h
        · exact ty_ints h
        · rw [List.eq_of_mem_replicate h]; exact ty_int 0
      · rw [row_long (by rw [List.length_take, List.length_append, List.length_replicate]; omega)]
        exact own_none
  have sA : Same H (upd Hf p4 (.tup [.ref d2, .str ""])) := s1.trans (S1.trans (S2.trans (S3.trans k8)))
  generalize upd Hf p4 (.tup [.ref d2, .str ""]) = HA at first sA gA hl ⊢
  refine ⟨_, rfl, _, _, rfl, rfl, ⟨by decide, by decide, by decide⟩, (by show 1 ≤ sizeLine; decide), fun o1 ho1 => ⟨(by show 6 ≤ sizeLine; decide), fun q2 hq2 => ?_⟩⟩
  have T1 := same_new ho1 (.tup [.int 1])
  have T2 := same_new hq2 (.lst [.bl true, .non, .str "1", .int (-1), .int (10 ^ Int.toNat 18), .ref o1])
  have bx := (hide_new (o := .lst [.ref p1, .ref p2, .ref p3, .ref p4]) hl).trans (hide_mono (l := l) (T1.trans T2))
  have xl := (T1.trans T2) _ _ (upd_same (a := l) (o := .lst [.ref p1, .ref p2, .ref p3, .ref p4]))
  have xo := T2 _ _ (upd_same (a := o1) (o := .tup [.int 1]))
  have xq := upd_same (H := upd (upd HA l (.lst [.ref p1, .ref p2, .ref p3, .ref p4])) o1 (.tup [.int 1])) (a := q2) (o := .lst [.bl true, .non, .str "1", .int (-1), .int (10 ^ Int.toNat 18), .ref o1])
  have xp := first _ bx
  have xg := bx _ _ gA
  have sx := sA.trans bx
  generalize upd (upd (upd HA l (.lst [.ref p1, .ref p2, .ref p3, .ref p4])) o1 (.tup [.int 1])) q2 (.lst [.bl true, .non, .str "1", .int (-1), .int (10 ^ Int.toNat 18), .ref o1]) = Hx at bx xl xo xq xp xg sx ⊢
  have nq : q2 ≠ l := fun e => by rw [e, xl] at xq; cases xq
  have no1 : o1 ≠ l := fun e => by rw [e, xl] at xo; cases xo
  have odds : ∀ o ∈ [V.bl true, .non, .str "1", .int (-1), .int (10 ^ Int.toNat 18), .ref o1], Ty (hide Hx l) o ∧ numV o = false := fun o ho => by
    simp only [List.mem_cons, List.mem_nil_iff, or_false] at ho
    rcases ho with rfl | rfl | rfl | rfl | rfl | rfl
    · exact ⟨.inl (.inr (.inl ⟨_, rfl⟩)), rfl⟩
    · exact ⟨.inl (.inl rfl), rfl⟩
    · exact ⟨.inl (.inr (.inr (.inr ⟨_, rfl⟩))), rfl⟩
    · exact ⟨ty_int _, by decide⟩
    · exact ⟨ty_int _, by decide⟩
    · exact ⟨.inr ⟨o1, rfl, .inl ⟨_, by rw [hide_ne no1]; exact xo⟩⟩, rfl⟩
  refine ⟨q2, rfl, ⟨_, SqL.of xq⟩, for_list (K := K) (a := q2) (xs := [.bl true, .non, .str "1", .int (-1), .int (10 ^ Int.toNat 18), .ref o1]) (fun i σ H' => (∃ x, σ = [some (.int c), some (.ref g), some (.int (c / 13 % ((((ns.map V.int).length : Nat) : Int) + 1))), some (.ref l), x]) ∧ Same (hide Hx l) (hide H' l) ∧ ∃ ps, H' l = some (.lst ps) ∧ ps.length = 4 + i ∧ ∀ p ∈ ps, PairOk (hide H' l) p)
    ⟨⟨none, rfl⟩, Same.refl _, _, xl, rfl, xp⟩ (fun i σ H' _ ⟨_, sm, _⟩ => SqL.of (hide_at (sm _ _ (by rw [hide_ne nq]; exact xq))).2) ?_ ?_⟩
  · rintro i x σ H' hx ⟨⟨x0, rfl⟩, sm, ps, hps, hlen, hok⟩
    obtain ⟨tyx, nox⟩ := odds x (List.mem_of_getElem? hx)
    have hi : i < 6 := (List.getElem?_eq_some_iff.mp hx).1
    have g' := (hide_at (sm _ _ xg)).2
    refine ⟨_, rfl, .inl ⟨rfl, _, SqL.of hps⟩, _, rfl, _, rfl, _, rfl, g, _, rfl, g', fun u1 Hu1 su1 hu1 => ⟨_, rfl, (by show 1 ≤ sizeLine; decide), fun ox hox => ?_⟩⟩
    have U1 := same_new hox (.tup [x])
    rw [cut_to at' hat] at hu1
    refine ⟨u1, ox, _, _, rfl, rfl, U1 _ _ hu1, upd_same, by rw [List.length_take]; exact fitsS (by show _ + 1 ≤ _; omega), fun w1 Hw1 sw1 hw1 => ⟨_, rfl, _, rfl, _, rfl, g, _, rfl, (su1.trans (U1.trans sw1)) _ _ g', fun u2 Hu2 su2 hu2 => ?_⟩⟩
    rw [cut_from at' hat] at hu2
    refine ⟨w1, u2, _, _, rfl, rfl, su2 _ _ hw1, hu2, by rw [List.length_append, List.length_take, List.length_drop]; exact fitsS (by show _ + 1 + _ ≤ _; omega), fun w2 Hw2 sw2 hw2 => ⟨(by show 2 ≤ sizeLine; decide), fun t ht => ?_⟩⟩
    have sall := su1.trans (U1.trans (sw1.trans (su2.trans sw2)))
    have hps2 := sall _ _ hps
    have nt : t ≠ l := fun e => by rw [e, hps2] at ht; cases ht
    have nw : w2 ≠ l := fun e => by rw [e, hps2] at hw2; cases hw2
    have th : Thing (hide Hw2 l) (.ref w2) false false (rowB ((ns.map V.int).take at' ++ [x] ++ (ns.map V.int).drop at')) := .tup w2 _ (by rw [hide_ne nw]; exact hw2) (by rw [List.length_append, List.length_append, List.length_take, List.length_drop]; show _ + 1 + _ ≤ _; omega) fun y hy => by
      rcases List.mem_append.mp hy with h | h
      · rcases List.mem_append.mp h with h | h
        · exact ty_ints (List.mem_of_mem_take h)
        · rw [List.mem_singleton.mp h]
          exact (tyx.same sm).same (hide_mono sall)
      · exact ty_ints (List.mem_of_mem_drop h)
    rw [row_odd (x := x) (by simp) nox] at th
    refine ⟨l, ps, _, rfl, rfl, by rw [upd_ne nt.symm]; exact hps2, fitsL (by omega), ⟨_, rfl⟩, sm.trans (hide_grow sall ht), ps ++ [.ref t], upd_same, by rw [List.length_append, hlen]; rfl, fun p hp => ?_⟩
    rcases List.mem_append.mp hp with h | h
    · exact (hok p h).same (hide_grow sall ht)
    · rw [List.mem_singleton.mp h]
      exact pair_new ht hps2 th own_none
  · rintro σ H' ⟨⟨x0, rfl⟩, sm, ps, hps, hlen, hok⟩
    have g' := (hide_at (sm _ _ xg)).2
    refine ⟨_, rfl, _, rfl, g, _, rfl, .inr (SqT.of g'), fun m1 hm1 => ⟨(by show 2 ≤ sizeLine; decide), fun p5 h5 => ⟨(by show 0 ≤ sizeLine; decide), fun m2 hm2 => ⟨(by show 2 ≤ sizeLine; decide), fun p6 h6 => ⟨(by show 2 ≤ sizeLine; decide), fun l2 hl2 => ?_⟩⟩⟩⟩⟩
    have V1 := same_new hm1 (.lst (ns.map V.int))
    have V2 := same_new h5 (.tup [.ref m1, .str ""])
    have V3 := same_new hm2 (.lst [])
    have V4 := same_new h6 (.tup [.ref m2, .str ""])
    have V5 := same_new hl2 (.lst [.ref p5, .ref p6])
    refine ⟨l, l2, ps, _, rfl, rfl, (V1.trans (V2.trans (V3.trans (V4.trans V5)))) _ _ hps, upd_same, by rw [hlen]; exact fitsS (by show 4 + 6 + 2 ≤ 1000; decide), fun r hr => ?_⟩
    have V6 := same_new hr (.lst (ps ++ [.ref p5, .ref p6]))
    refine q r _ _ ((sx.trans sm).trans (hide_same.trans (V1.trans (V2.trans (V3.trans (V4.trans (V5.trans V6))))))) upd_same (by rw [List.length_append, hlen]; show 4 + 6 + 2 ≤ 50; decide) fun p hp => ?_
    rcases List.mem_append.mp hp with h | h
    · exact (hok p h).same (hide_same.trans (V1.trans (V2.trans (V3.trans (V4.trans (V5.trans V6))))))
    · simp only [List.mem_cons, List.mem_nil_iff, or_false] at h
      rcases h with rfl | rfl
      · exact pair_of upd_same (V3.trans (V4.trans (V5.trans V6))) (.lst m1 _ ((V2.trans (V3.trans (V4.trans (V5.trans V6)))) _ _ upd_same)) own_none
      · exact pair_of upd_same (V5.trans V6) (.lst m2 _ ((V4.trans (V5.trans V6)) _ _ upd_same)) own_none
theorem ok_numbers (X : Tx K w mg T) : FnOk P w K mg base CX0 1 T.qnumbers T.d_qnumbers ["_law_cell"] spPairs := by
  refine X.F_qnumbers.okQ sc_qnumbers (fun vs H Q E h => ?_) (fun cdv A outer s H vs Q E hr h => ?_)
  · obtain ⟨_, rfl, _⟩ := h
    rfl
  obtain ⟨c, rfl, q⟩ := h
  refine ⟨_, (qss_cons (qs_set (i := 1) sc_qnumbers.nd rfl (Or.inl rfl) (qe_lst (qaT (qe_tup (qaB (qe_op op_mod (qv 0) (qe_op op_pow qe_int qe_int)) (qaC qe_str qa_nil))) (qaT (qe_tup (qaB (qe_op op_sub (qe_op op_pow qe_int qe_int) qe_int) (qaC qe_str qa_nil))) (qaT (qe_tup (qaC qe_int (qaC qe_str qa_nil))) (qaT (qe_tup (qaB (qe_op op_add (qe_op op_pow qe_int qe_int) (qe_op op_mod (qv 0) (qe_op op_pow qe_int qe_int))) (qaC qe_str qa_nil))) qa_nil)))))) (qss_one (qs_ret (qe_op op_cat (qv 1) (qe_lst (qaT (qe_tup (qaB (qe_op op_sub (qe_un un_neg qe_int) (qe_op op_mod (qv 0) (qe_op op_pow qe_int qe_int))) (qaC qe_str qa_nil))) (qaT (qe_tup (qaC qe_bl (qaC qe_str qa_nil))) (qaT (qe_tup (qaC qe_bl (qaC qe_str qa_nil))) (qaT (qe_tup (qaC qe_non (qaC qe_str qa_nil))) (qaT (qe_tup (qaD qe_dnewK (qaC qe_str qa_nil))) qa_nil)))))))))), ?_⟩
  refine ⟨_, rfl, _, _, rfl, rfl, ⟨by decide, by decide, by decide⟩, _, _, rfl, rfl, (by show (0 : Int) < 10 ^ Int.toNat 18; decide), (by show 2 ≤ sizeLine; decide), fun p1 h1 => ?_⟩
  refine ⟨_, _, rfl, rfl, ⟨by decide, by decide, by decide⟩, _, _, rfl, rfl, (by show 2 ≤ sizeLine; decide), fun p2 h2 => ⟨(by show 2 ≤ sizeLine; decide), fun p3 h3 => ?_⟩⟩
  refine ⟨_, _, rfl, rfl, ⟨by decide, by decide, by decide⟩, _, rfl, _, _, rfl, rfl, ⟨by decide, by decide, by decide⟩, _, _, rfl, rfl, (by show (0 : Int) < 10 ^ Int.toNat 30; decide), _, _, rfl, rfl, (by show 2 ≤ sizeLine; decide), fun p4 h4 => ⟨(by show 4 ≤ sizeLine; decide), fun l hl => ?_⟩⟩
  refine ⟨_, rfl, _, rfl, _, rfl, _, _, rfl, rfl, ⟨by decide, by decide, by decide⟩, _, _, rfl, rfl, (by show (0 : Int) < 10 ^ Int.toNat 30; decide), _, _, rfl, rfl, (by show 2 ≤ sizeLine; decide), fun p5 h5 => ?_⟩
  refine ⟨(by show 2 ≤ sizeLine; decide), fun p6 h6 => ⟨(by show 2 ≤ sizeLine; decide), fun p7 h7 => ⟨(by show 2 ≤ sizeLine; decide), fun p8 h8 => fun d hd => ⟨(by show 2 ≤ sizeLine; decide), fun p9 h9 => ⟨(by show 5 ≤ sizeLine; decide), fun l2 hl2 => ?_⟩⟩⟩⟩⟩
  have m18 := Int.emod_nonneg c (show (10 ^ Int.toNat 18 : Int) ≠ 0 by decide)
  have n18 := Int.emod_lt_of_pos c (show (0 : Int) < 10 ^ Int.toNat 18 by decide)
  have m30 := Int.emod_nonneg c (show (10 ^ Int.toNat 30 : Int) ≠ 0 by decide)
  have big : (10 ^ Int.toNat 18 : Int) = LIM := by decide
  have S1 := same_new h1 (.tup [.int (c % 10 ^ Int.toNat 18), .str "num"])
  have S2 := same_new h2 (.tup [.int (10 ^ Int.toNat 18 - 1), .str "num"])
  have S3 := same_new h3 (.tup [.int 0, .str "num"])
  have S4 := same_new h4 (.tup [.int (10 ^ Int.toNat 18 + c % 10 ^ Int.toNat 30), .str ""])
  have S5 := same_new hl (.lst [.ref p1, .ref p2, .ref p3, .ref p4])
  have S6 := same_new h5 (.tup [.int (-1 - c % 10 ^ Int.toNat 30), .str ""])
  have S7 := same_new h6 (.tup [.bl true, .str ""])
  have S8 := same_new h7 (.tup [.bl false, .str ""])
  have S9 := same_new h8 (.tup [.non, .str ""])
  have Sa := same_new hd (.dK [])
  have Sb := same_new h9 (.tup [.ref d, .str ""])
  have Sc := same_new hl2 (.lst [.ref p5, .ref p6, .ref p7, .ref p8, .ref p9])
  refine ⟨l, l2, _, _, rfl, rfl, (S6.trans (S7.trans (S8.trans (S9.trans (Sa.trans (Sb.trans Sc)))))) _ _ upd_same, upd_same, (by show 4 + 5 ≤ sizeLine; decide), fun r hr => ?_⟩
  have Sd := same_new hr (.lst ([.ref p1, .ref p2, .ref p3, .ref p4] ++ [.ref p5, .ref p6, .ref p7, .ref p8, .ref p9]))
  have fd := Sc.trans Sd
  have fb := Sb.trans fd
  have fa := Sa.trans fb
  have f9 := S9.trans fa
  have f8 := S8.trans f9
  have f7 := S7.trans f8
  have f6 := S6.trans f7
  have f5 := S5.trans f6
  have f4 := S4.trans f5
  have f3 := S3.trans f4
  have f2 := S2.trans f3
  refine q r _ _ (S1.trans f2) upd_same (by show 9 ≤ 50; decide) fun p hp => ?_
  simp only [List.cons_append, List.nil_append, List.mem_cons, List.mem_nil_iff, or_false] at hp
  rcases hp with rfl | rfl | rfl | rfl | rfl | rfl | rfl | rfl | rfl
  · exact pair_of upd_same f2 (.int _) (own_num (num_yes ⟨m18, by rw [← big]; exact n18⟩))
  · exact pair_of upd_same f3 (.int _) (own_num (by decide))
  · exact pair_of upd_same f4 (.int _) (own_num (by decide))
  · refine pair_of upd_same f5 (.int _) ?_
    have e : numV (.int (10 ^ Int.toNat 18 + c % 10 ^ Int.toNat 30)) = false := by
      show (decide (0 ≤ _) && decide (_ < LIM)) = false
      rw [decide_eq_false (p := _ < LIM) (by rw [big]; omega), Bool.and_false]
    rw [e]
    exact own_none
  · refine pair_of upd_same f7 (.int _) ?_
    have e : numV (.int (-1 - c % 10 ^ Int.toNat 30)) = false := by
      show (decide (0 ≤ _) && decide (_ < LIM)) = false
      rw [decide_eq_false (p := 0 ≤ _) (by omega), Bool.false_and]
    rw [e]
    exact own_none
  · exact pair_of upd_same f8 (.bl true) own_none
  · exact pair_of upd_same f9 (.bl false) own_none
  · exact pair_of upd_same fa .non own_none
  · exact pair_of upd_same fd (.dct d [] (fb _ _ upd_same)) own_none
end
end K3
set_option Elab.async false
set_option linter.all false
set_option maxRecDepth 100000
set_option maxHeartbeats 4000000
namespace K3
open PySem L2
def spTold : Sp := fun vs H Q _ => ∃ v k n t r, vs = [v, .str k] ∧ Thing H v n t r ∧ Own k n t r ∧ ∀ H', Same H H' → Q (.bl true) H'
def needL (d : Str) : List Str := match needK d with
  | none => []
  | some e => e.1 ++ [e.2]
def TB : List (Str × Str) := [("add", "num num num"), ("sub", "num num num"), ("mul", "num num num"), ("less", "num num num"), ("glue", "text text text"), ("show", "num text"), ("size", "text num"), ("put", "row num row"), ("link", "row row row"), ("at", "row num num"), ("many", "row num")]
theorem tb_need : ∀ e ∈ TB, Txt.split e.2 " " = needL e.1 ∧ e.2.length ≤ 100 ∧ (Txt.split e.2 " ").length ≤ 100 ∧ (Builtin.Str.partsBetween e.2 (Builtin.Str.occurrences e.2 " " 0 e.2.length (e.2.length + 1)) (Str.length " ")).length ≤ 100 := by decide +kernel
theorem tb_no {d : Str} (h : ∀ e ∈ TB, e.1 ≠ d) : needL d = [] := by
  have e : needK d = none := by
    unfold needK
    rw [Option.map_eq_none_iff, List.find?_eq_none]
    intro x hx
    have hm : x.1 ∈ NEED.map (·.1) := List.mem_map.mpr ⟨x, hx, rfl⟩
    have ht : NEED.map (·.1) = TB.map (·.1) := by decide +kernel
    rw [ht] at hm
    obtain ⟨y, hy, e⟩ := List.mem_map.mp hm
    have := h y hy
    rw [e] at this
    simpa using this
  unfold needL
  rw [e]
def spNeeded : Sp := fun vs H Q _ => ∃ d, vs = [.str d] ∧ ∀ l H', Same H H' → H l = none → H' l = some (.lst ((needL d).map V.str)) → Q (.ref l) H'
theorem paired_get {α β : Type} {R : α → β → Prop} : ∀ {as : List α} {bs : List β} {i : Nat} {b : β}, Paired R as bs → bs[i]? = some b → ∃ a, as[i]? = some a ∧ R a b
  | _, _, _, _, .nil, e => by simp at e
  | _, _, 0, _, .cons r _, e => by simp at e; subst e; exact ⟨_, rfl, r⟩
  | _, _, i + 1, _, .cons _ t, e => by simpa using paired_get (i := i) t (by simpa using e)
section
variable {P : Program} {w : World} {K : PySem.W.Frag} {mg : Str → Option Value} {base : Heap} {T : Adr}
theorem kind_own {k k' : Str} {n t r : Bool} (o : Own k n t r) (h : k' ∈ (["num", "text", "row"] : List Str)) : kindB k' n t r = decide (k = k') := by
  obtain ⟨rfl, rfl, rfl⟩ := o
  simp only [List.mem_cons, List.mem_nil_iff, or_false] at h
  rcases h with rfl | rfl | rfl
  · unfold kindB; rw [if_pos rfl]
  · unfold kindB; rw [if_neg (by decide), if_pos rfl]
  · unfold kindB; rw [if_neg (by decide), if_neg (by decide), decide_eq_true rfl, Bool.true_and]
theorem ok_told (X : Tx K w mg T) : FnOk P w K mg base CX0 5 T.qtold T.d_qtold ["_law_thing", "_law_own"] spTold := by
  have G_qiskind := ok_kind (P := P) (w := w) (base := base) X
  refine X.F_qtold.okQ sc_qtold (fun vs H Q E h => ?_) (fun cdv A outer s H vs Q E hr h => ?_)
  · obtain ⟨_, _, _, _, _, rfl, _⟩ := h
    rfl
  obtain ⟨v, k, n, t, r, rfl, th, ow, q⟩ := h
  refine ⟨_, (qss_cons (qs_for PassesOwn.never rfl (qi_list (qe_lst (qaC qe_str (qaC qe_str (qaC qe_str qa_nil))))) (qg_name (i := 2) sc_qtold.nd rfl (Or.inl rfl)) (qss_cons (qs_set (i := 3) sc_qtold.nd rfl (Or.inl rfl) (qe_call G_qiskind hr rfl X.m_qiskind X.F_qiskind.kp X.b_qiskind .nil pass0 (qaN (qv 2) (qaN (qv 0) qa_nil)))) (qss_one (qs_if (qw_pt (qw_or (qt_not (qt_val (qe_callB call_isinst rfl X.z_isinstance PyProof.Rows.boot_isinstance (qaN (qv 3) (qaN (qe_bltn rfl X.z_bool PyProof.Rows.boot_bool rfl (v := .ty "bool")) qa_nil))))) (qw_or1 (qt_cmpR op_ne (qv 3) (qe_cmpR op_eq (qv 1) (qv 2) (nomark _)) (nomark _))))) qss_never qss_nil)))) (qss_one (qs_ret qe_bl))), ?_⟩
  refine ⟨(by show 3 ≤ sizeLine; decide), fun p hp => ⟨p, rfl, ⟨_, SqL.of upd_same⟩, for_list (K := K) (a := p) (xs := (["num", "text", "row"] : List Str).map V.str) (fun i σ H' => (∃ x y, σ = [some v, some (.str k), x, y]) ∧ Same (upd H p (.lst ((["num", "text", "row"] : List Str).map V.str))) H') ⟨⟨none, none, rfl⟩, Same.refl _⟩ (fun i σ H' _ ⟨_, sm⟩ => SqL.of (sm _ _ upd_same)) ?_ ?_⟩⟩
  · rintro i x σ H' hx ⟨⟨x0, y0, rfl⟩, sm⟩
    obtain ⟨k', hk', rfl⟩ := List.mem_map.mp (List.mem_of_getElem? hx)
    have sa := (same_new hp _).trans sm
    refine ⟨_, rfl, _, rfl, k', v, n, t, r, rfl, th.same sa, fun H2 s2 => ?_⟩
    rw [kind_own ow hk']
    refine ⟨_, rfl, _, "bool", _, _, rfl, .bl _, t_bb, _, rfl, _, rfl, _, rfl, _, rfl, rfl, rfl, _, rfl, iteN ?_ ⟨⟨_, _, rfl⟩, sm.trans s2⟩⟩
    have e : decide (V.str k = V.str k') = decide (k = k') := by simp
    rw [e]
    simp
  · rintro σ H' ⟨_, sm⟩
    exact q H' ((same_new hp _).trans sm)
theorem ok_needed (X : Tx K w mg T) : FnOk P w K mg base CX0 1 T.qneeded T.d_qneeded ["_law_word"] spNeeded := by
  refine X.F_qneeded.okQ sc_qneeded (fun vs H Q E h => ?_) (fun cdv A outer s H vs Q E hr h => ?_)
  · obtain ⟨_, rfl, _⟩ := h
    rfl
  obtain ⟨d, rfl, q⟩ := h
  refine ⟨_, (qss_cons (qs_set (i := 1) sc_qneeded.nd rfl (Or.inl rfl) (qe_lst (qaT (qe_tup (qaC qe_str (qaC qe_str qa_nil))) (qaT (qe_tup (qaC qe_str (qaC qe_str qa_nil))) (qaT (qe_tup (qaC qe_str (qaC qe_str qa_nil))) (qaT (qe_tup (qaC qe_str (qaC qe_str qa_nil))) qa_nil)))))) (qss_cons (qs_set (i := 1) sc_qneeded.nd rfl (Or.inl rfl) (qe_op op_cat (qv 1) (qe_lst (qaT (qe_tup (qaC qe_str (qaC qe_str qa_nil))) (qaT (qe_tup (qaC qe_str (qaC qe_str qa_nil))) (qaT (qe_tup (qaC qe_str (qaC qe_str qa_nil))) (qaT (qe_tup (qaC qe_str (qaC qe_str qa_nil))) qa_nil))))))) (qss_cons (qs_set (i := 1) sc_qneeded.nd rfl (Or.inl rfl) (qe_op op_cat (qv 1) (qe_lst (qaT (qe_tup (qaC qe_str (qaC qe_str qa_nil))) (qaT (qe_tup (qaC qe_str (qaC qe_str qa_nil))) (qaT (qe_tup (qaC qe_str (qaC qe_str qa_nil))) qa_nil)))))) (qss_cons (qs_for PassesOwn.never rfl (qi_list (qv 1)) (qg_tup rfl (qgs_cons (qg_name (i := 2) sc_qneeded.nd rfl (Or.inl rfl)) (qgs_cons (qg_name (i := 3) sc_qneeded.nd rfl (Or.inl rfl)) qgs_nil))) (qss_one (qs_if (qt_cmpR op_eq (qv 2) (qv 0) (nomark _)) (qss_one (qs_ret (qe_bm PySem.F.plainAttrs_str PySem.F.slot_str_split PySem.F.type_str_split mt_split (qv 3) (qaC qe_str qa_nil)))) qss_nil))) (qss_one (qs_ret (qe_lst qa_nil))))))), ?_⟩
  refine ⟨(by show 2 ≤ sizeLine; decide), fun p1 h1 => ⟨(by show 2 ≤ sizeLine; decide), fun p2 h2 => ⟨(by show 2 ≤ sizeLine; decide), fun p3 h3 => ⟨(by show 2 ≤ sizeLine; decide), fun p4 h4 => ⟨(by show 4 ≤ sizeLine; decide), fun l1 hl1 => ?_⟩⟩⟩⟩⟩
  refine ⟨_, rfl, (by show 2 ≤ sizeLine; decide), fun p5 h5 => ⟨(by show 2 ≤ sizeLine; decide), fun p6 h6 => ⟨(by show 2 ≤ sizeLine; decide), fun p7 h7 => ⟨(by show 2 ≤ sizeLine; decide), fun p8 h8 => ⟨(by show 4 ≤ sizeLine; decide), fun l2 hl2 => ?_⟩⟩⟩⟩⟩
  have S1 := same_new h1 (.tup [.str "add", .str "num num num"])
  have S2 := same_new h2 (.tup [.str "sub", .str "num num num"])
  have S3 := same_new h3 (.tup [.str "mul", .str "num num num"])
  have S4 := same_new h4 (.tup [.str "less", .str "num num num"])
  have L1 := same_new hl1 (.lst [.ref p1, .ref p2, .ref p3, .ref p4])
  have S5 := same_new h5 (.tup [.str "glue", .str "text text text"])
  have S6 := same_new h6 (.tup [.str "show", .str "num text"])
  have S7 := same_new h7 (.tup [.str "size", .str "text num"])
  have S8 := same_new h8 (.tup [.str "put", .str "row num row"])
  have L2' := same_new hl2 (.lst [.ref p5, .ref p6, .ref p7, .ref p8])
  refine ⟨l1, l2, _, _, rfl, rfl, (S5.trans (S6.trans (S7.trans (S8.trans L2')))) _ _ upd_same, upd_same, (by show 8 ≤ sizeLine; decide), fun l3 hl3 => ?_⟩
  have L3 := same_new hl3 (.lst ([.ref p1, .ref p2, .ref p3, .ref p4] ++ [.ref p5, .ref p6, .ref p7, .ref p8]))
  refine ⟨_, rfl, (by show 2 ≤ sizeLine; decide), fun p9 h9 => ⟨(by show 2 ≤ sizeLine; decide), fun p10 h10 => ⟨(by show 2 ≤ sizeLine; decide), fun p11 h11 => ⟨(by show 3 ≤ sizeLine; decide), fun l4 hl4 => ?_⟩⟩⟩⟩
  have S9 := same_new h9 (.tup [.str "link", .str "row row row"])
  have S10 := same_new h10 (.tup [.str "at", .str "row num num"])
  have S11 := same_new h11 (.tup [.str "many", .str "row num"])
  have L4 := same_new hl4 (.lst [.ref p9, .ref p10, .ref p11])
  refine ⟨l3, l4, _, _, rfl, rfl, (S9.trans (S10.trans (S11.trans L4))) _ _ upd_same, upd_same, (by show 11 ≤ sizeLine; decide), fun l hl => ?_⟩
  have L5 := same_new hl (.lst (([.ref p1, .ref p2, .ref p3, .ref p4] ++ [.ref p5, .ref p6, .ref p7, .ref p8]) ++ [.ref p9, .ref p10, .ref p11]))
  have c15 := L5
  have c14 := L4.trans c15
  have c13 := S11.trans c14
  have c12 := S10.trans c13
  have c11 := S9.trans c12
  have c10 := L3.trans c11
  have c9 := L2'.trans c10
  have c8 := S8.trans c9
  have c7 := S7.trans c8
  have c6 := S6.trans c7
  have c5 := S5.trans c6
  have c4 := L1.trans c5
  have c3 := S4.trans c4
  have c2 := S3.trans c3
  have c1 := S2.trans c2
  have c0 := S1.trans c1
  have f1 := c1 _ _ (upd_same (a := p1) (o := .tup [.str "add", .str "num num num"]))
  have f2 := c2 _ _ (upd_same (a := p2) (o := .tup [.str "sub", .str "num num num"]))
  have f3 := c3 _ _ (upd_same (a := p3) (o := .tup [.str "mul", .str "num num num"]))
  have f4 := c4 _ _ (upd_same (a := p4) (o := .tup [.str "less", .str "num num num"]))
  have f5 := c6 _ _ (upd_same (a := p5) (o := .tup [.str "glue", .str "text text text"]))
  have f6 := c7 _ _ (upd_same (a := p6) (o := .tup [.str "show", .str "num text"]))
  have f7 := c8 _ _ (upd_same (a := p7) (o := .tup [.str "size", .str "text num"]))
  have f8 := c9 _ _ (upd_same (a := p8) (o := .tup [.str "put", .str "row num row"]))
  have f9 := c12 _ _ (upd_same (a := p9) (o := .tup [.str "link", .str "row row row"]))
  have f10 := c13 _ _ (upd_same (a := p10) (o := .tup [.str "at", .str "row num num"]))
  have f11 := c14 _ _ (upd_same (a := p11) (o := .tup [.str "many", .str "row num"]))
  have cH : Same H (upd (upd (upd (upd (upd (upd (upd (upd (upd (upd (upd (upd (upd (upd (upd (upd H p1 (.tup [.str "add", .str "num num num"])) p2 (.tup [.str "sub", .str "num num num"])) p3 (.tup [.str "mul", .str "num num num"])) p4 (.tup [.str "less", .str "num num num"])) l1 (.lst [.ref p1, .ref p2, .ref p3, .ref p4])) p5 (.tup [.str "glue", .str "text text text"])) p6 (.tup [.str "show", .str "num text"])) p7 (.tup [.str "size", .str "text num"])) p8 (.tup [.str "put", .str "row num row"])) l2 (.lst [.ref p5, .ref p6, .ref p7, .ref p8])) l3 (.lst ([.ref p1, .ref p2, .ref p3, .ref p4] ++ [.ref p5, .ref p6, .ref p7, .ref p8]))) p9 (.tup [.str "link", .str "row row row"])) p10 (.tup [.str "at", .str "row num num"])) p11 (.tup [.str "many", .str "row num"])) l4 (.lst [.ref p9, .ref p10, .ref p11])) l (.lst (([.ref p1, .ref p2, .ref p3, .ref p4] ++ [.ref p5, .ref p6, .ref p7, .ref p8]) ++ [.ref p9, .ref p10, .ref p11]))) := c0
  have fl : (upd (upd (upd (upd (upd (upd (upd (upd (upd (upd (upd (upd (upd (upd (upd (upd H p1 (.tup [.str "add", .str "num num num"])) p2 (.tup [.str "sub", .str "num num num"])) p3 (.tup [.str "mul", .str "num num num"])) p4 (.tup [.str "less", .str "num num num"])) l1 (.lst [.ref p1, .ref p2, .ref p3, .ref p4])) p5 (.tup [.str "glue", .str "text text text"])) p6 (.tup [.str "show", .str "num text"])) p7 (.tup [.str "size", .str "text num"])) p8 (.tup [.str "put", .str "row num row"])) l2 (.lst [.ref p5, .ref p6, .ref p7, .ref p8])) l3 (.lst ([.ref p1, .ref p2, .ref p3, .ref p4] ++ [.ref p5, .ref p6, .ref p7, .ref p8]))) p9 (.tup [.str "link", .str "row row row"])) p10 (.tup [.str "at", .str "row num num"])) p11 (.tup [.str "many", .str "row num"])) l4 (.lst [.ref p9, .ref p10, .ref p11])) l (.lst (([.ref p1, .ref p2, .ref p3, .ref p4] ++ [.ref p5, .ref p6, .ref p7, .ref p8]) ++ [.ref p9, .ref p10, .ref p11]))) l = some (.lst (([.ref p1, .ref p2, .ref p3, .ref p4] ++ [.ref p5, .ref p6, .ref p7, .ref p8]) ++ [.ref p9, .ref p10, .ref p11])) := upd_same
  clear c0 c1 c2 c3 c4 c5 c6 c7 c8 c9 c10 c11 c12 c13 c14 c15 S1 S2 S3 S4 S5 S6 S7 S8 S9 S10 S11 L1 L2' L3 L4 L5
  generalize (upd (upd (upd (upd (upd (upd (upd (upd (upd (upd (upd (upd (upd (upd (upd (upd H p1 (.tup [.str "add", .str "num num num"])) p2 (.tup [.str "sub", .str "num num num"])) p3 (.tup [.str "mul", .str "num num num"])) p4 (.tup [.str "less", .str "num num num"])) l1 (.lst [.ref p1, .ref p2, .ref p3, .ref p4])) p5 (.tup [.str "glue", .str "text text text"])) p6 (.tup [.str "show", .str "num text"])) p7 (.tup [.str "size", .str "text num"])) p8 (.tup [.str "put", .str "row num row"])) l2 (.lst [.ref p5, .ref p6, .ref p7, .ref p8])) l3 (.lst ([.ref p1, .ref p2, .ref p3, .ref p4] ++ [.ref p5, .ref p6, .ref p7, .ref p8]))) p9 (.tup [.str "link", .str "row row row"])) p10 (.tup [.str "at", .str "row num num"])) p11 (.tup [.str "many", .str "row num"])) l4 (.lst [.ref p9, .ref p10, .ref p11])) l (.lst (([.ref p1, .ref p2, .ref p3, .ref p4] ++ [.ref p5, .ref p6, .ref p7, .ref p8]) ++ [.ref p9, .ref p10, .ref p11]))) = Hx at f1 f2 f3 f4 f5 f6 f7 f8 f9 f10 f11 cH fl ⊢
  have pr : Paired (fun (e : Str × Str) (x : V) => ∃ p, x = V.ref p ∧ Hx p = some (HO.tup [.str e.1, .str e.2])) TB (([V.ref p1, .ref p2, .ref p3, .ref p4] ++ [.ref p5, .ref p6, .ref p7, .ref p8]) ++ [.ref p9, .ref p10, .ref p11]) :=
    .cons ⟨p1, rfl, f1⟩ (.cons ⟨p2, rfl, f2⟩ (.cons ⟨p3, rfl, f3⟩ (.cons ⟨p4, rfl, f4⟩ (.cons ⟨p5, rfl, f5⟩ (.cons ⟨p6, rfl, f6⟩ (.cons ⟨p7, rfl, f7⟩ (.cons ⟨p8, rfl, f8⟩ (.cons ⟨p9, rfl, f9⟩ (.cons ⟨p10, rfl, f10⟩ (.cons ⟨p11, rfl, f11⟩ (.nil)))))))))))
  refine ⟨_, rfl, l, rfl, ⟨_, SqL.of fl⟩, for_list (K := K) (a := l) (xs := ([V.ref p1, .ref p2, .ref p3, .ref p4] ++ [.ref p5, .ref p6, .ref p7, .ref p8]) ++ [.ref p9, .ref p10, .ref p11]) (fun i σ H' => H' = Hx ∧ (∃ x y, σ = [some (.str d), some (.ref l), x, y]) ∧ ∀ j e, j < i → TB[j]? = some e → e.1 ≠ d) ⟨rfl, ⟨none, none, rfl⟩, fun j e hj => absurd hj (Nat.not_lt_zero _)⟩ (fun i σ H' _ ⟨e, _⟩ => by rw [e]; exact SqL.of fl) ?_ ?_⟩
  · rintro i x σ H' hx ⟨rfl, ⟨x0, y0, rfl⟩, hno⟩
    obtain ⟨⟨nm, tx⟩, he, p, rfl, hp⟩ := paired_get pr hx
    refine ⟨p, _, rfl, SqT.of hp, rfl, _, _, rfl, _, _, rfl, rfl, ?_⟩
    refine ⟨_, rfl, _, rfl, rfl, _, rfl, iteDd (fun e => ?_) (fun e => ?_)⟩
    · have e : nm = d := by simpa using e
      obtain ⟨e1, e2, e3, e4⟩ := tb_need _ (List.mem_of_getElem? he)
      dsimp only at e1 e2 e3 e4
      refine ⟨_, rfl, rfl, tx, " ", rfl, rfl, by decide, fitsS (by omega), fitsS (by omega), fitsS (by omega), fun r hr => q r _ (cH.trans (same_new hr _)) ?_ ?_⟩
      · cases hh : H r with
        | none => rfl
        | some o => rw [cH _ _ hh] at hr; cases hr
      · rw [upd_same, e1, e]
    · refine ⟨rfl, ⟨_, _, rfl⟩, fun j e' hj hej => ?_⟩
      rcases Nat.lt_succ_iff_lt_or_eq.mp hj with h | h
      · exact hno j e' h hej
      · rw [h, he] at hej
        cases hej
        exact fun z => e (by rw [z])
  · rintro σ H' ⟨rfl, _, hno⟩
    have e : needL d = [] := tb_no fun e he => by
      obtain ⟨j, hj, rfl⟩ := List.mem_iff_getElem.mp he
      exact hno j _ hj (List.getElem?_eq_getElem hj)
    refine ⟨(by show 0 ≤ sizeLine; decide), fun r hr => q r _ (cH.trans (same_new hr _)) ?_ (by rw [e]; exact upd_same)⟩
    cases hh : H r with
    | none => rfl
    | some o => rw [cH _ _ hh] at hr; cases hr
end
end K3
set_option Elab.async false
set_option linter.all false
set_option maxRecDepth 100000
set_option maxHeartbeats 4000000
namespace K3
open PySem L2
abbrev K3L : List Str := ["num", "text", "row"]
def spKinds : Sp := fun vs H Q _ => ∃ d c, vs = [.str d, .int c] ∧ ∀ l ks H', Same H H' → H l = none → H' l = some (.lst (ks.map V.str)) → KindsOk ks → Q (.ref l) H'
theorem none_back {H H' : Hp} {D : Addr} (s : Same H H') (h : H' D = none) : H D = none := by
  cases hh : H D with
  | none => rfl
  | some o => rw [s _ _ hh] at h; cases h
theorem some_at (m : Int) : ∃ k, atI [V.str "num", .str "text", .str "row"] (m % 3) = some (.str k) ∧ k ∈ K3L := by
  have h0 := Int.emod_nonneg m (show (3 : Int) ≠ 0 by decide)
  have h1 := Int.emod_lt_of_pos m (show (0 : Int) < 3 by decide)
  have : m % 3 = 0 ∨ m % 3 = 1 ∨ m % 3 = 2 := by omega
  rcases this with e | e | e <;> rw [e]
  · exact ⟨"num", rfl, by decide⟩
  · exact ⟨"text", rfl, by decide⟩
  · exact ⟨"row", rfl, by decide⟩
theorem cut_last (xs : List V) : cutV xs none (some (-1)) = xs.take (xs.length - 1) := by
  show List.take (((-1 : Int) + (xs.length : Int)).toNat - 0) (xs.drop 0) = _
  rw [List.drop_zero]
  congr 1
  omega
theorem need_kinds (d : Str) : KindsOk ((needL d).take ((needL d).length - 1)) := by
  unfold needL
  cases h : needK d with
  | none => exact ⟨by decide, fun k hk => nomatch hk⟩
  | some e =>
    have hm : e ∈ NEED.map (·.2) := by
      unfold needK at h
      obtain ⟨x, hx, rfl⟩ := Option.map_eq_some_iff.mp h
      exact List.mem_map.mpr ⟨x, List.mem_of_find?_eq_some hx, rfl⟩
    have : ∀ e ∈ NEED.map (·.2), e.1.length ≤ 4 ∧ ∀ k ∈ e.1, k ∈ K3L := by decide +kernel
    obtain ⟨h1, h2⟩ := this e hm
    have e1 : (e.1 ++ [e.2]).take ((e.1 ++ [e.2]).length - 1) = e.1 := by simp
    show KindsOk ((e.1 ++ [e.2]).take ((e.1 ++ [e.2]).length - 1))
    rw [e1]
    exact ⟨h1, h2⟩
section
variable {P : Program} {w : World} {K : PySem.W.Frag} {mg : Str → Option Value} {base : Heap} {T : Adr}
theorem ok_kinds (X : Tx K w mg T) : FnOk P w K mg base CX0 2 T.qkinds T.d_qkinds ["_law_word", "_law_cell"] spKinds := by
  have G_qneeded := ok_needed (P := P) (w := w) (base := base) X
  refine X.F_qkinds.okQ sc_qkinds (fun vs H Q E h => ?_) (fun cdv A outer s H vs Q E hr h => ?_)
  · obtain ⟨_, _, rfl, _⟩ := h
    rfl
  obtain ⟨d, c, rfl, q⟩ := h
  refine ⟨_, (qss_cons (qs_set (i := 2) sc_qkinds.nd rfl (Or.inr rfl) (qe_lst (qaC qe_str (qaC qe_str (qaC qe_str qa_nil))))) (qss_cons (qs_set (i := 3) sc_qkinds.nd rfl (Or.inl rfl) (qe_slice sl_list (qe_call G_qneeded hr rfl X.m_qneeded X.F_qneeded.kp X.b_qneeded .nil pass0 (qaN (qv 0) qa_nil)) qo_none (qo_some (qe_un un_neg qe_int)))) (qss_cons (qs_if (qt_cmpR op_eq (qv 0) qe_str (nomark _)) (qss_one (qs_set (i := 3) sc_qkinds.nd rfl (Or.inl rfl) (qe_lst (qaC qe_str (qaS (qe_ix ix_list (qv 2) (qe_op op_mod (qe_op op_fdiv (qv 1) qe_int) qe_int) (fun _ _ => rfl)) (qaS (qe_ix ix_list (qv 2) (qe_op op_mod (qe_op op_fdiv (qv 1) qe_int) qe_int) (fun _ _ => rfl)) qa_nil)))))) qss_nil) (qss_cons (qs_if (qw_pt (qw_or (qt_cmpR op_eq (qe_op op_mod (qv 1) qe_int) qe_int (nomark _)) (qw_or1 (qt_cmpR (op_eqNil hr.units) (qv 3) (qe_lst qa_nil) (nomark _))))) (qss_one (qs_ret (qe_comp (ys := ["_law_cell", "_law_some"]) (js := [1, 2]) rfl rfl (qi_range1 rfl X.z_range (qaB (qe_op op_mod (qe_op op_fdiv (qv 1) qe_int) qe_int) qa_nil)) (fun _ _ _ _ _ => qif_nil) (fun _ _ _ _ _ => (qe_ix (ix_listC (K := K) rfl) (qv 2) (qe_op op_mod (qe_op op_fdiv (qv 1) (qe_op op_add qe_int (qe_op op_mul qe_int (qv 0)))) qe_int) (fun _ _ => rfl)))))) qss_nil) (qss_cons (qs_if (qt_cmpR op_eq (qe_op op_mod (qe_op op_fdiv (qv 1) qe_int) qe_int) qe_int (nomark _)) (qss_cons (qs_set (i := 4) sc_qkinds.nd rfl (Or.inl rfl) (qe_op op_mod (qe_op op_fdiv (qv 1) qe_int) (qe_callB call_len_seq rfl X.z_len PySem.boot_len (qaN (qv 3) qa_nil)))) (qss_one (qs_set (i := 3) sc_qkinds.nd rfl (Or.inl rfl) (qe_op op_cat (qe_op op_cat (qe_slice sl_list (qv 3) qo_none (qo_some (qv 4))) (qe_lst (qaS (qe_ix ix_list (qv 2) (qe_op op_mod (qe_op op_fdiv (qv 1) qe_int) qe_int) (fun _ _ => rfl)) qa_nil))) (qe_slice sl_list (qv 3) (qo_some (qe_op op_add (qv 4) qe_int)) qo_none))))) qss_nil) (qss_one (qs_ret (qv 3)))))))), ?_⟩
  refine ⟨(by show 3 ≤ sizeLine; decide), fun sm hsm => ?_⟩
  have S0 := same_new hsm (.lst [.str "num", .str "text", .str "row"])
  refine ⟨_, rfl, d, rfl, fun l1 H1 s1 nl1 hl1 => ⟨_, rfl, _, rfl, l1, _, rfl, SqL.of hl1, fun l2 hl2 => ?_⟩⟩
  have S2 := same_new hl2 (.lst (cutV ((needL d).map V.str) none (some (-1))))
  have hs2 := (s1.trans S2) _ _ (upd_same (a := sm) (o := .lst [.str "num", .str "text", .str "row"]))
  have sa := S0.trans (s1.trans S2)
  have hl2' : _ = some (HO.lst (((needL d).take ((needL d).length - 1)).map V.str)) := (upd_same (H := H1) (a := l2) (o := .lst (cutV ((needL d).map V.str) none (some (-1))))).trans (by rw [cut_last, List.length_map, List.map_take])
  have nl2 : H l2 = none := by
    cases hh : H l2 with
    | none => rfl
    | some o => rw [(S0.trans s1) _ _ hh] at hl2; cases hl2
  have kok2 := need_kinds d
  generalize (needL d).take ((needL d).length - 1) = ks at hl2' kok2
  refine ⟨_, rfl, rfl, _, rfl, iteDd (fun ep => ?_) (fun ep => ?_)⟩
  · obtain ⟨k1, hk1, hki1⟩ := some_at (c / 2)
    refine ⟨_, rfl, _, rfl, _, _, rfl, rfl, ⟨by decide, by decide⟩, _, _, rfl, rfl, (by show (0 : Int) < 3; decide), sm, _, _, _, rfl, rfl, SqL.of hs2, hk1, _, rfl, _, rfl, _, _, rfl, rfl, ⟨by decide, by decide⟩, _, _, rfl, rfl, (by show (0 : Int) < 3; decide), sm, _, _, _, rfl, rfl, SqL.of hs2, hk1, (by show 3 ≤ sizeLine; decide), fun l3 hl3 => ?_⟩
    have S3 := same_new hl3 (.lst ((["num", k1, k1] : List Str).map V.str))
    have sb := sa.trans S3
    have hs3 := S3 _ _ hs2
    have hl3' := upd_same (H := upd H1 l2 (.lst (cutV ((needL d).map V.str) none (some (-1))))) (a := l3) (o := .lst ((["num", k1, k1] : List Str).map V.str))
    have nl3 : H l3 = none := by
      cases hh : H l3 with
      | none => rfl
      | some o => rw [sa _ _ hh] at hl3; cases hl3
    have kok3 : KindsOk ["num", k1, k1] := ⟨by show 3 ≤ 4; decide, fun k hk => by
      simp only [List.mem_cons, List.mem_nil_iff, or_false] at hk
      rcases hk with rfl | rfl | rfl
      · decide
      · exact hki1
      · exact hki1⟩
    refine ⟨_, rfl, _, _, rfl, rfl, (by show (0 : Int) < 2; decide), rfl, _, rfl, iteDd (fun ev => ?_) (fun ev => ⟨_, rfl, (by show 0 ≤ sizeLine; decide), fun e he => ⟨l3, e, _, rfl, rfl, SqL.of (same_new he _ _ _ hl3'), SqL.of upd_same, _, rfl, iteDd (fun en => ?_) (fun en => ?_)⟩⟩)⟩
    · have c0 := Int.emod_nonneg (c / 2) (show (5 : Int) ≠ 0 by decide)
      have c1 := Int.emod_lt_of_pos (c / 2) (show (0 : Int) < 5 by decide)
      have SC := sb
      have hC := hs3
      refine ⟨_, rfl, _, _, rfl, rfl, ⟨by decide, by decide⟩, _, _, rfl, rfl, (by show (0 : Int) < 5; decide), _, rfl, by omega, by omega, fun D hD => ?_⟩
      refine comp_rng (fun i acc H' => ∃ ks : List Str, acc = ks.map V.str ∧ ks.length = i ∧ (∀ k ∈ ks, k ∈ K3L) ∧ Same _ H' ∧ H' D = some (.lst acc)) (Nat.lt_of_le_of_lt (show (c / 2 % 5).toNat ≤ 1000 by omega) (by decide))
        ⟨[], rfl, rfl, (fun z hz => nomatch hz), same_new hD _, upd_same⟩ (fun i acc H' ⟨zs, e, l, _, _, d⟩ => ⟨d, by rw [e, List.length_map]; exact l⟩) ?_ ?_
      · rintro i m acc H' hi ⟨zs, e, l, o, sm', dd⟩ hm
        obtain ⟨k', hk', hki⟩ := some_at (c / (7 + 5 * (0 + (i : Int))))
        refine ⟨_, rfl, _, rfl, _, rfl, _, _, rfl, rfl, .inl ⟨by decide, by decide⟩, _, _, rfl, rfl, _, _, rfl, rfl, ⟨by show (0 : Int) < 7 + 5 * (0 + (i : Int)); omega, by show (7 + 5 * (0 + (i : Int)) : Int) < _; omega⟩, _, _, rfl, rfl, (by show (0 : Int) < 3; decide), sm, _, _, _, rfl, rfl, SqL.of (sm' _ _ hC), hk', cstep hi hm dd ⟨zs ++ [k'], by rw [e, List.map_append]; rfl, by rw [List.length_append, l]; rfl, fun z hz => ?_, same_upd hD sm', upd_same⟩⟩
        rcases List.mem_append.mp hz with h | h
        · exact o z h
        · rw [List.mem_singleton.mp h]
          exact hki
      · rintro acc H' ⟨zs, e, l, o, sm', dd⟩
        refine q D zs H' (SC.trans sm') ?_ (by rw [dd, e]) ⟨by rw [l]; omega, o⟩
        exact none_back SC hD
    · have c0 := Int.emod_nonneg (c / 2) (show (5 : Int) ≠ 0 by decide)
      have c1 := Int.emod_lt_of_pos (c / 2) (show (0 : Int) < 5 by decide)
      have SC := sb.trans (same_new he (.lst []))
      have hC := same_new he (.lst []) _ _ hs3
      refine ⟨_, rfl, _, _, rfl, rfl, ⟨by decide, by decide⟩, _, _, rfl, rfl, (by show (0 : Int) < 5; decide), _, rfl, by omega, by omega, fun D hD => ?_⟩
      refine comp_rng (fun i acc H' => ∃ ks : List Str, acc = ks.map V.str ∧ ks.length = i ∧ (∀ k ∈ ks, k ∈ K3L) ∧ Same _ H' ∧ H' D = some (.lst acc)) (Nat.lt_of_le_of_lt (show (c / 2 % 5).toNat ≤ 1000 by omega) (by decide))
        ⟨[], rfl, rfl, (fun z hz => nomatch hz), same_new hD _, upd_same⟩ (fun i acc H' ⟨zs, e, l, _, _, d⟩ => ⟨d, by rw [e, List.length_map]; exact l⟩) ?_ ?_
      · rintro i m acc H' hi ⟨zs, e, l, o, sm', dd⟩ hm
        obtain ⟨k', hk', hki⟩ := some_at (c / (7 + 5 * (0 + (i : Int))))
        refine ⟨_, rfl, _, rfl, _, rfl, _, _, rfl, rfl, .inl ⟨by decide, by decide⟩, _, _, rfl, rfl, _, _, rfl, rfl, ⟨by show (0 : Int) < 7 + 5 * (0 + (i : Int)); omega, by show (7 + 5 * (0 + (i : Int)) : Int) < _; omega⟩, _, _, rfl, rfl, (by show (0 : Int) < 3; decide), sm, _, _, _, rfl, rfl, SqL.of (sm' _ _ hC), hk', cstep hi hm dd ⟨zs ++ [k'], by rw [e, List.map_append]; rfl, by rw [List.length_append, l]; rfl, fun z hz => ?_, same_upd hD sm', upd_same⟩⟩
        rcases List.mem_append.mp hz with h | h
        · exact o z h
        · rw [List.mem_singleton.mp h]
          exact hki
      · rintro acc H' ⟨zs, e, l, o, sm', dd⟩
        refine q D zs H' (SC.trans sm') ?_ (by rw [dd, e]) ⟨by rw [l]; omega, o⟩
        exact none_back SC hD
    have hne : (["num", k1, k1] : List Str) ≠ [] := fun z => en (by rw [z]; rfl)
    have hpos : 0 < (["num", k1, k1] : List Str).length := List.length_pos_iff.mpr hne
    have h4 := kok3.1
    have S9 := same_new he (.lst [])
    refine ⟨_, rfl, _, _, rfl, rfl, ⟨by decide, by decide⟩, _, _, rfl, rfl, (by show (0 : Int) < 6; decide), rfl, _, rfl, iteDd (fun e6 => ?_) (fun e6 => ?_)⟩
    · have hlm : (((["num", k1, k1] : List Str).map V.str).length : Nat) = (["num", k1, k1] : List Str).length := List.length_map _
      have hp : (0 : Int) < ((((["num", k1, k1] : List Str).map V.str).length : Nat) : Int) := by omega
      refine ⟨_, rfl, _, _, rfl, rfl, ⟨by decide, by decide⟩, _, rfl, l3, _, rfl, .inl (SqL.of (S9 _ _ hl3')), _, _, rfl, rfl, hp, ?_⟩
      have a0 := Int.emod_nonneg (c / 36) (show ((((["num", k1, k1] : List Str).map V.str).length : Nat) : Int) ≠ 0 by omega)
      have a1 := Int.emod_lt_of_pos (c / 36) hp
      obtain ⟨at', hat⟩ := Int.eq_ofNat_of_zero_le a0
      obtain ⟨k', hk', hki⟩ := some_at (c / 108)
      refine ⟨_, rfl, _, rfl, _, rfl, l3, _, rfl, SqL.of (S9 _ _ hl3'), fun m1 hm1 => ?_⟩
      have M1 := same_new hm1 (.lst (cutV ((["num", k1, k1] : List Str).map V.str) none (some (c / 36 % ((((["num", k1, k1] : List Str).map V.str).length : Nat) : Int)))))
      refine ⟨_, rfl, _, rfl, _, _, rfl, rfl, ⟨by decide, by decide⟩, _, _, rfl, rfl, (by show (0 : Int) < 3; decide), sm, _, _, _, rfl, rfl, SqL.of ((S9.trans M1) _ _ hs3), hk', (by show 1 ≤ sizeLine; decide), fun m2 hm2 => ?_⟩
      have M2 := same_new hm2 (.lst [.str k'])
      refine ⟨m1, m2, _, _, rfl, rfl, M2 _ _ upd_same, upd_same, by rw [cut_to at' hat, List.length_take]; exact fitsS (by show _ + 1 ≤ _; omega), fun m3 hm3 => ?_⟩
      have M3 := same_new hm3 (.lst (cutV ((["num", k1, k1] : List Str).map V.str) none (some (c / 36 % ((((["num", k1, k1] : List Str).map V.str).length : Nat) : Int))) ++ [.str k']))
      refine ⟨_, rfl, _, rfl, _, _, rfl, rfl, _, rfl, l3, _, rfl, SqL.of ((S9.trans (M1.trans (M2.trans M3))) _ _ hl3'), fun m4 hm4 => ?_⟩
      have M4 := same_new hm4 (.lst (cutV ((["num", k1, k1] : List Str).map V.str) (some (c / 36 % ((((["num", k1, k1] : List Str).map V.str).length : Nat) : Int) + 1)) none))
      refine ⟨m3, m4, _, _, rfl, rfl, M4 _ _ upd_same, upd_same, by rw [cut_to at' hat, cut_from (at' + 1) (by rw [hat]; rfl), List.length_append, List.length_take, List.length_drop]; exact fitsS (by show _ + 1 + _ ≤ _; omega), fun m5 hm5 => ?_⟩
      have M5 := same_new hm5 (.lst ((cutV ((["num", k1, k1] : List Str).map V.str) none (some (c / 36 % ((((["num", k1, k1] : List Str).map V.str).length : Nat) : Int))) ++ [.str k']) ++ cutV ((["num", k1, k1] : List Str).map V.str) (some (c / 36 % ((((["num", k1, k1] : List Str).map V.str).length : Nat) : Int) + 1)) none))
      have M := sb.trans (S9.trans (M1.trans (M2.trans (M3.trans M4))))
      refine ⟨_, rfl, q m5 ((["num", k1, k1] : List Str).take at' ++ [k'] ++ (["num", k1, k1] : List Str).drop (at' + 1)) _ (M.trans M5) ?_ ?_ ?_⟩
      · exact none_back M hm5
      · rw [upd_same, cut_to at' hat, cut_from (at' + 1) (by rw [hat]; rfl)]
        simp
      · refine ⟨by rw [List.length_append, List.length_append, List.length_take, List.length_drop]; show _ + 1 + _ ≤ 4; have := kok3.1; omega, fun x hx => ?_⟩
        rcases List.mem_append.mp hx with h | h
        · rcases List.mem_append.mp h with h | h
          · exact kok3.2 x (List.mem_of_mem_take h)
          · rw [List.mem_singleton.mp h]
            exact hki
        · exact kok3.2 x (List.mem_of_mem_drop h)
    · exact ⟨_, rfl, q l3 (["num", k1, k1] : List Str) _ (sb.trans S9) nl3 (S9 _ _ hl3') kok3⟩
  refine ⟨_, rfl, _, _, rfl, rfl, (by show (0 : Int) < 2; decide), rfl, _, rfl, iteDd (fun ev => ?_) (fun ev => ⟨_, rfl, (by show 0 ≤ sizeLine; decide), fun e he => ⟨l2, e, _, rfl, rfl, SqL.of (same_new he _ _ _ hl2'), SqL.of upd_same, _, rfl, iteDd (fun en => ?_) (fun en => ?_)⟩⟩)⟩
  · have c0 := Int.emod_nonneg (c / 2) (show (5 : Int) ≠ 0 by decide)
    have c1 := Int.emod_lt_of_pos (c / 2) (show (0 : Int) < 5 by decide)
    have SC := sa
    have hC := hs2
    refine ⟨_, rfl, _, _, rfl, rfl, ⟨by decide, by decide⟩, _, _, rfl, rfl, (by show (0 : Int) < 5; decide), _, rfl, by omega, by omega, fun D hD => ?_⟩
    refine comp_rng (fun i acc H' => ∃ ks : List Str, acc = ks.map V.str ∧ ks.length = i ∧ (∀ k ∈ ks, k ∈ K3L) ∧ Same _ H' ∧ H' D = some (.lst acc)) (Nat.lt_of_le_of_lt (show (c / 2 % 5).toNat ≤ 1000 by omega) (by decide))
      ⟨[], rfl, rfl, (fun z hz => nomatch hz), same_new hD _, upd_same⟩ (fun i acc H' ⟨zs, e, l, _, _, d⟩ => ⟨d, by rw [e, List.length_map]; exact l⟩) ?_ ?_
    · rintro i m acc H' hi ⟨zs, e, l, o, sm', dd⟩ hm
      obtain ⟨k', hk', hki⟩ := some_at (c / (7 + 5 * (0 + (i : Int))))
      refine ⟨_, rfl, _, rfl, _, rfl, _, _, rfl, rfl, .inl ⟨by decide, by decide⟩, _, _, rfl, rfl, _, _, rfl, rfl, ⟨by show (0 : Int) < 7 + 5 * (0 + (i : Int)); omega, by show (7 + 5 * (0 + (i : Int)) : Int) < _; omega⟩, _, _, rfl, rfl, (by show (0 : Int) < 3; decide), sm, _, _, _, rfl, rfl, SqL.of (sm' _ _ hC), hk', cstep hi hm dd ⟨zs ++ [k'], by rw [e, List.map_append]; rfl, by rw [List.length_append, l]; rfl, fun z hz => ?_, same_upd hD sm', upd_same⟩⟩
      rcases List.mem_append.mp hz with h | h
      · exact o z h
      · rw [List.mem_singleton.mp h]
        exact hki
    · rintro acc H' ⟨zs, e, l, o, sm', dd⟩
      refine q D zs H' (SC.trans sm') ?_ (by rw [dd, e]) ⟨by rw [l]; omega, o⟩
      exact none_back SC hD
  · have c0 := Int.emod_nonneg (c / 2) (show (5 : Int) ≠ 0 by decide)
    have c1 := Int.emod_lt_of_pos (c / 2) (show (0 : Int) < 5 by decide)
    have SC := sa.trans (same_new he (.lst []))
    have hC := same_new he (.lst []) _ _ hs2
    refine ⟨_, rfl, _, _, rfl, rfl, ⟨by decide, by decide⟩, _, _, rfl, rfl, (by show (0 : Int) < 5; decide), _, rfl, by omega, by omega, fun D hD => ?_⟩
    refine comp_rng (fun i acc H' => ∃ ks : List Str, acc = ks.map V.str ∧ ks.length = i ∧ (∀ k ∈ ks, k ∈ K3L) ∧ Same _ H' ∧ H' D = some (.lst acc)) (Nat.lt_of_le_of_lt (show (c / 2 % 5).toNat ≤ 1000 by omega) (by decide))
      ⟨[], rfl, rfl, (fun z hz => nomatch hz), same_new hD _, upd_same⟩ (fun i acc H' ⟨zs, e, l, _, _, d⟩ => ⟨d, by rw [e, List.length_map]; exact l⟩) ?_ ?_
    · rintro i m acc H' hi ⟨zs, e, l, o, sm', dd⟩ hm
      obtain ⟨k', hk', hki⟩ := some_at (c / (7 + 5 * (0 + (i : Int))))
      refine ⟨_, rfl, _, rfl, _, rfl, _, _, rfl, rfl, .inl ⟨by decide, by decide⟩, _, _, rfl, rfl, _, _, rfl, rfl, ⟨by show (0 : Int) < 7 + 5 * (0 + (i : Int)); omega, by show (7 + 5 * (0 + (i : Int)) : Int) < _; omega⟩, _, _, rfl, rfl, (by show (0 : Int) < 3; decide), sm, _, _, _, rfl, rfl, SqL.of (sm' _ _ hC), hk', cstep hi hm dd ⟨zs ++ [k'], by rw [e, List.map_append]; rfl, by rw [List.length_append, l]; rfl, fun z hz => ?_, same_upd hD sm', upd_same⟩⟩
      rcases List.mem_append.mp hz with h | h
      · exact o z h
      · rw [List.mem_singleton.mp h]
        exact hki
    · rintro acc H' ⟨zs, e, l, o, sm', dd⟩
      refine q D zs H' (SC.trans sm') ?_ (by rw [dd, e]) ⟨by rw [l]; omega, o⟩
      exact none_back SC hD
  have hne : ks ≠ [] := fun z => en (by rw [z]; rfl)
  have hpos : 0 < ks.length := List.length_pos_iff.mpr hne
  have h4 := kok2.1
  have S9 := same_new he (.lst [])
  refine ⟨_, rfl, _, _, rfl, rfl, ⟨by decide, by decide⟩, _, _, rfl, rfl, (by show (0 : Int) < 6; decide), rfl, _, rfl, iteDd (fun e6 => ?_) (fun e6 => ?_)⟩
  · have hlm : ((ks.map V.str).length : Nat) = ks.length := List.length_map _
    have hp : (0 : Int) < (((ks.map V.str).length : Nat) : Int) := by omega
    refine ⟨_, rfl, _, _, rfl, rfl, ⟨by decide, by decide⟩, _, rfl, l2, _, rfl, .inl (SqL.of (S9 _ _ hl2')), _, _, rfl, rfl, hp, ?_⟩
    have a0 := Int.emod_nonneg (c / 36) (show (((ks.map V.str).length : Nat) : Int) ≠ 0 by omega)
    have a1 := Int.emod_lt_of_pos (c / 36) hp
    obtain ⟨at', hat⟩ := Int.eq_ofNat_of_zero_le a0
    obtain ⟨k', hk', hki⟩ := some_at (c / 108)
    refine ⟨_, rfl, _, rfl, _, rfl, l2, _, rfl, SqL.of (S9 _ _ hl2'), fun m1 hm1 => ?_⟩
    have M1 := same_new hm1 (.lst (cutV (ks.map V.str) none (some (c / 36 % (((ks.map V.str).length : Nat) : Int)))))
    refine ⟨_, rfl, _, rfl, _, _, rfl, rfl, ⟨by decide, by decide⟩, _, _, rfl, rfl, (by show (0 : Int) < 3; decide), sm, _, _, _, rfl, rfl, SqL.of ((S9.trans M1) _ _ hs2), hk', (by show 1 ≤ sizeLine; decide), fun m2 hm2 => ?_⟩
    have M2 := same_new hm2 (.lst [.str k'])
    refine ⟨m1, m2, _, _, rfl, rfl, M2 _ _ upd_same, upd_same, by rw [cut_to at' hat, List.length_take]; exact fitsS (by show _ + 1 ≤ _; omega), fun m3 hm3 => ?_⟩
    have M3 := same_new hm3 (.lst (cutV (ks.map V.str) none (some (c / 36 % (((ks.map V.str).length : Nat) : Int))) ++ [.str k']))
    refine ⟨_, rfl, _, rfl, _, _, rfl, rfl, _, rfl, l2, _, rfl, SqL.of ((S9.trans (M1.trans (M2.trans M3))) _ _ hl2'), fun m4 hm4 => ?_⟩
    have M4 := same_new hm4 (.lst (cutV (ks.map V.str) (some (c / 36 % (((ks.map V.str).length : Nat) : Int) + 1)) none))
    refine ⟨m3, m4, _, _, rfl, rfl, M4 _ _ upd_same, upd_same, by rw [cut_to at' hat, cut_from (at' + 1) (by rw [hat]; rfl), List.length_append, List.length_take, List.length_drop]; exact fitsS (by show _ + 1 + _ ≤ _; omega), fun m5 hm5 => ?_⟩
    have M5 := same_new hm5 (.lst ((cutV (ks.map V.str) none (some (c / 36 % (((ks.map V.str).length : Nat) : Int))) ++ [.str k']) ++ cutV (ks.map V.str) (some (c / 36 % (((ks.map V.str).length : Nat) : Int) + 1)) none))
    have M := sa.trans (S9.trans (M1.trans (M2.trans (M3.trans M4))))
    refine ⟨_, rfl, q m5 (ks.take at' ++ [k'] ++ ks.drop (at' + 1)) _ (M.trans M5) ?_ ?_ ?_⟩
    · exact none_back M hm5
    · rw [upd_same, cut_to at' hat, cut_from (at' + 1) (by rw [hat]; rfl)]
      simp
    · refine ⟨by rw [List.length_append, List.length_append, List.length_take, List.length_drop]; show _ + 1 + _ ≤ 4; have := kok2.1; omega, fun x hx => ?_⟩
      rcases List.mem_append.mp hx with h | h
      · rcases List.mem_append.mp h with h | h
        · exact kok2.2 x (List.mem_of_mem_take h)
        · rw [List.mem_singleton.mp h]
          exact hki
      · exact kok2.2 x (List.mem_of_mem_drop h)
  · exact ⟨_, rfl, q l2 ks _ (sa.trans S9) nl2 (S9 _ _ hl2') kok2⟩
end
end K3
set_option Elab.async false
set_option linter.all false
set_option maxRecDepth 100000
set_option maxHeartbeats 4000000
namespace K3
open PySem L2
theorem boot_VE : bootBuiltins "ValueError" = some (.type "ValueError") := by decide +kernel
def dueK (d : Str) (ks : List Str) : Str := (madeK d ks).getD ""
def spDue : Sp := fun vs H Q _ => ∃ a d ks, vs = [.str d, .ref a] ∧ H a = some (.lst (ks.map V.str)) ∧ KindsOk ks ∧ ∀ H', Same H H' → Q (.str (dueK d ks)) H'
def spRefused : Sp := fun vs H Q _ => ∃ a d ks, vs = [.str d, .ref a] ∧ H a = some (.lst (ks.map V.str)) ∧ KindsOk ks ∧ WordOk d ∧ madeK d ks = none ∧ ∀ H', Same H H' → Q (.bl true) H'
def spMadeL : Sp := fun vs H Q _ => ∃ a d ks, vs = [.str d, .ref a] ∧ H a = some (.lst (ks.map V.str)) ∧ KindsOk ks ∧ WordOk d ∧ ∀ H', Same H H' → Q (.bl true) H'
theorem atI_last (xs : List Str) (k : Str) : atI ((xs ++ [k]).map V.str) (-1) = some (.str k) := by
  have e : ixN ((xs ++ [k]).map V.str).length (-1) = some xs.length := by
    unfold ixN
    rw [List.length_map, List.length_append, List.length_singleton, if_neg (by decide), if_pos (by omega)]
    congr 1
    omega
  unfold atI
  rw [e]
  show ((xs ++ [k]).map V.str)[xs.length]? = _
  rw [List.getElem?_map, List.getElem?_append_right (Nat.le_refl _), Nat.sub_self]
  rfl
theorem call_isxC {X : Cx} {K : PySem.W.Frag} (h : X.K = K) : CallR X (.builtin "isinstance") (fun xs H Q => ∃ (a C : Addr) (v : V) (b : Bool), xs = [.ref a, v] ∧ H a = some (excO a C) ∧ XCls K C ∧
    ((∃ D, v = .ref D ∧ PySem.W.kitOne K (.ref C) (.ref D) = some b) ∨ (∃ T, v = .ty T ∧ PySem.W.kitOne K (.ref C) (.type T) = some b) ∨ (∃ (p : Addr) (ds : List Addr), v = .ref p ∧ H p = some (.tup (ds.map V.ref)) ∧ PySem.W.kitAny K (.ref C) (ds.map Value.ref) = some b)) ∧ Q (.bl b) H) := h ▸ call_isx
theorem isds1 {K : PySem.W.Frag} {H : Hp} {b : Bool} : Isds K H [.fl (.bl b)] [.bl b] := isds_cons (by unfold Isd; exact ⟨rfl, rfl⟩) isds_nil
theorem isds2 {K : PySem.W.Frag} {H : Hp} {b c : Bool} : Isds K H [.fl (.bl b), .fl (.bl c)] [.bl b, .bl c] := isds_cons (by unfold Isd; exact ⟨rfl, rfl⟩) isds1
theorem passE0 {P : Program} {w : World} {X : Cx} : Passes (CXe P w) X E0 := fun _ _ _ _ _ _ _ h => by
  obtain ⟨_, _, _, _, _, z⟩ := h
  exact z.elim
theorem made_ne {d : Str} {ks : List Str} {k : Str} (h : madeK d ks = some k) (hk : KindsOk ks) : k ≠ "" := by
  unfold madeK at h
  by_cases hd : d = "pick"
  · rw [if_pos hd] at h
    match ks, hk, h with
    | [a, b, c], hk, h =>
      have h : (if a = "num" then if b = c then some b else none else none) = some k := h
      by_cases h1 : a = "num"
      · rw [if_pos h1] at h
        by_cases h2 : b = c
        · rw [if_pos h2] at h
          cases h
          have := hk.2 k (by simp)
          intro z
          rw [z] at this
          revert this
          decide
        · rw [if_neg h2] at h; cases h
      · rw [if_neg h1] at h; cases h
  · rw [if_neg hd] at h
    cases hn : needK d with
    | none => rw [hn] at h; cases h
    | some e =>
      rw [hn] at h
      have h : (if ks = e.1 then some e.2 else none) = some k := h
      by_cases h1 : ks = e.1
      · rw [if_pos h1] at h
        cases h
        have hm : e ∈ NEED.map (·.2) := by
          unfold needK at hn
          obtain ⟨x, hx, rfl⟩ := Option.map_eq_some_iff.mp hn
          exact List.mem_map.mpr ⟨x, List.mem_of_find?_eq_some hx, rfl⟩
        have : ∀ e ∈ NEED.map (·.2), e.2 ≠ ("" : Str) := by decide +kernel
        exact this e hm
      · rw [if_neg h1] at h; cases h
section
variable {P : Program} {w : World} {K : PySem.W.Frag} {mg : Str → Option Value} {base : Heap} {T : Adr}
theorem ok_due (X : Tx K w mg T) : FnOk P w K mg base CX0 2 T.qdue T.d_qdue ["_law_word", "_law_kinds_here"] spDue := by
  have G_qneeded := ok_needed (P := P) (w := w) (base := base) X
  refine X.F_qdue.okQ sc_qdue (fun vs H Q E h => ?_) (fun cdv A outer s H vs Q E hr h => ?_)
  · obtain ⟨_, _, _, rfl, _⟩ := h
    rfl
  obtain ⟨a, d, ks, rfl, ha, kok, q⟩ := h
  refine ⟨_, (qss_cons (qs_if (qt_cmpR op_eq (qv 0) qe_str (nomark _)) (qss_cons (qs_if (qw_pt (qw_and (qt_cmpR op_eq (qe_callB call_len_seq rfl X.z_len PySem.boot_len (qaN (qv 1) qa_nil)) qe_int (nomark _)) (qw_and (qt_cmpR op_eq (qe_ix ix_list (qv 1) qe_int (fun _ _ => rfl)) qe_str (nomark _)) (qw_and1 (qt_cmpR op_eq (qe_ix ix_list (qv 1) qe_int (fun _ _ => rfl)) (qe_ix ix_list (qv 1) qe_int (fun _ _ => rfl)) (nomark _)))))) (qss_one (qs_ret (qe_ix ix_list (qv 1) qe_int (fun _ _ => rfl)))) qss_nil) (qss_one (qs_ret qe_str))) qss_nil) (qss_cons (qs_set (i := 2) sc_qdue.nd rfl (Or.inl rfl) (qe_call G_qneeded hr rfl X.m_qneeded X.F_qneeded.kp X.b_qneeded .nil pass0 (qaN (qv 0) qa_nil))) (qss_cons (qs_if (qw_pt (qw_or (qt_cmpR (op_eqNil hr.units) (qv 2) (qe_lst qa_nil) (nomark _)) (qw_or1 (qt_cmpR (op_neD hr.units) (qv 1) (qe_slice sl_list (qv 2) qo_none (qo_some (qe_un un_neg qe_int))) (nomark _))))) (qss_one (qs_ret qe_str)) qss_nil) (qss_one (qs_ret (qe_ix ix_list (qv 2) (qe_un un_neg qe_int) (fun _ _ => rfl))))))), ?_⟩
  have q0 := q H (Same.refl H)
  refine ⟨_, rfl, rfl, _, rfl, iteDd (fun e1 => ?_) (fun e1 => ?_)⟩
  · have e1 : d = "pick" := by simpa using e1
    have e : dueK d ks = (pickK ks).getD "" := by unfold dueK madeK; rw [if_pos e1]
    rw [e] at q0
    by_cases h3 : ks.length = 3
    · match ks, h3, ha, q0 with
      | [k0, k1, k2], _, ha, q0 =>
        have ep : pickK [k0, k1, k2] = if k0 = "num" then if k1 = k2 then some k1 else none else none := rfl
        refine ⟨_, rfl, a, _, rfl, .inl (SqL.of ha), rfl, _, rfl, iteYd rfl ?_⟩
        refine ⟨_, rfl, a, _, 0, _, rfl, rfl, SqL.of ha, rfl, rfl, _, rfl, iteDd (fun e0 => ?_) (fun e0 => ?_)⟩
        · have e0 : k0 = "num" := by simpa using e0
          refine ⟨_, rfl, a, _, 1, _, rfl, rfl, SqL.of ha, rfl, _, rfl, a, _, 2, _, rfl, rfl, SqL.of ha, rfl, rfl, _, rfl, iteDd (fun e2 => ?_) (fun e2 => ?_)⟩
          · have e2 : k1 = k2 := by simpa using e2
            rw [ep, if_pos e0, if_pos e2] at q0
            exact ⟨_, rfl, a, _, 1, _, rfl, rfl, SqL.of ha, rfl, q0⟩
          · have n2 : ¬ k1 = k2 := fun z => e2 (by rw [z])
            rw [ep, if_pos e0, if_neg n2] at q0
            exact q0
        · have n0 : ¬ k0 = "num" := fun z => e0 (by rw [z])
          rw [ep, if_neg n0] at q0
          exact q0
    · refine ⟨_, rfl, a, _, rfl, .inl (SqL.of ha), rfl, _, rfl, iteNd (fun z => h3 ?_) ?_⟩
      · have := V.int.inj z
        rw [List.length_map] at this
        omega
      · have en : pickK ks = none := by
          match ks, h3 with
          | [], _ => rfl
          | [_], _ => rfl
          | [_, _], _ => rfl
          | [_, _, _], h => exact absurd rfl h
          | _ :: _ :: _ :: _ :: _, _ => rfl
        rw [en] at q0
        exact q0
  have n1 : ¬ d = "pick" := fun z => e1 (by rw [z])
  refine ⟨_, rfl, d, rfl, fun l1 H1 s1 nl1 hl1 => ?_⟩
  cases hn : needK d with
  | none =>
    have en : needL d = [] := by unfold needL; rw [hn]
    have e : dueK d ks = "" := by unfold dueK madeK; rw [if_neg n1, hn]; rfl
    rw [en] at hl1
    rw [e] at q
    refine ⟨_, rfl, (by show 0 ≤ sizeLine; decide), fun p hp => ⟨l1, p, _, rfl, rfl, SqL.of (same_new hp _ _ _ hl1), SqL.of upd_same, _, rfl, iteYd rfl ?_⟩⟩
    exact q _ (s1.trans (same_new hp _))
  | some e =>
    obtain ⟨ns, k⟩ := e
    have en : needL d = ns ++ [k] := by unfold needL; rw [hn]
    have em : madeK d ks = if ks = ns then some k else none := by unfold madeK; rw [if_neg n1, hn]
    rw [en] at hl1
    refine ⟨_, rfl, (by show 0 ≤ sizeLine; decide), fun p hp => ⟨l1, p, _, rfl, rfl, SqL.of (same_new hp _ _ _ hl1), SqL.of upd_same, _, rfl, iteNd (by simp) ?_⟩⟩
    have P1 := same_new hp (.lst [])
    refine ⟨_, rfl, _, rfl, _, rfl, _, rfl, l1, _, rfl, SqL.of (P1 _ _ hl1), fun l2 hl2 => ?_⟩
    have ec : cutV ((ns ++ [k]).map V.str) none (some (-1)) = ns.map V.str := by
      rw [cut_last, List.length_map, ← List.map_take]
      congr 1
      simp
    rw [ec]
    have P2 := same_new hl2 (.lst (ns.map V.str))
    have sq := s1.trans (P1.trans P2)
    refine ⟨a, l2, _, _, _, _, rfl, rfl, .inr ⟨SqL.of (sq _ _ ha), SqL.of upd_same⟩, isds_strs ks, isds_strs ns, by rw [dep_strs]; decide, _, rfl, ?_⟩
    rw [eqDs_strs]
    by_cases hks : ks = ns
    · have e : dueK d ks = k := by unfold dueK; rw [em, if_pos hks]; rfl
      rw [e] at q
      refine iteN (by rw [decide_eq_true hks]; rfl) ?_
      exact ⟨_, rfl, _, rfl, l1, _, _, .str k, rfl, rfl, SqL.of ((P1.trans P2) _ _ hl1), atI_last ns k, q _ sq⟩
    · have e : dueK d ks = "" := by unfold dueK; rw [em, if_neg hks]; rfl
      rw [e] at q
      exact iteY (by rw [decide_eq_false hks]; rfl) (q _ sq)
theorem ok_refused (X : Tx K w mg T) : FnOk P w K mg base CX0 5 T.qrefused T.d_qrefused ["_law_word", "_law_kinds_here"] spRefused := by
  have G_qmadekind := ok_made (P := P) (w := w) (base := base) X
  refine X.F_qrefused.okQ sc_qrefused (fun vs H Q E h => ?_) (fun cdv A outer s H vs Q E hr h => ?_)
  · obtain ⟨_, _, _, rfl, _⟩ := h
    rfl
  obtain ⟨a, d, ks, rfl, ha, kok, wok, hm, q⟩ := h
  refine ⟨_, (qss_cons (qs_set (i := 2) sc_qrefused.nd rfl (Or.inl rfl) (qe_lst qa_nil)) (qss_cons (qs_set (i := 3) sc_qrefused.nd rfl (Or.inl rfl) (qe_lst qa_nil)) (qss_cons (qs_try (i := 4) G_qmadekind hr rfl X.m_qmadekind X.F_qmadekind.kp X.b_qmadekind (qaN (qv 0) (qaN (qv 1) qa_nil)) rfl X.m_LeafError X.e_LeafError sc_qrefused.nd rfl rfl rfl rfl rfl (fun _ => (qss_cons (qs_set (i := 2) sc_qrefused.nd rfl (Or.inl rfl) (qe_lst (qaK (qe_callB (call_isxC (K := K) rfl) rfl X.z_isinstance PyProof.Rows.boot_isinstance (qaN (qv 4) (qaN (qe_glob rfl X.m_NoKind (v := V.ref T.k_NoKind) rfl) qa_nil))) (qaK (qe_callB (call_isxC (K := K) rfl) rfl X.z_isinstance PyProof.Rows.boot_isinstance (qaN (qv 4) (qaN (qe_bltn rfl X.z_ValueError boot_VE rfl (v := .ty "ValueError")) qa_nil))) qa_nil)))) (qss_one (qs_set (i := 3) sc_qrefused.nd rfl (Or.inl rfl) (qe_lst (qaK (qe_callB (call_isxC (K := K) rfl) rfl X.z_isinstance PyProof.Rows.boot_isinstance (qaN (qv 4) (qaT (qe_tup (qaN (qe_glob rfl X.m_NoText (v := V.ref T.k_NoText) rfl) (qaN (qe_glob rfl X.m_TooGreat (v := V.ref T.k_TooGreat) rfl) (qaN (qe_glob rfl X.m_NoName (v := V.ref T.k_NoName) rfl) (qaN (qe_glob rfl X.m_NoRule (v := V.ref T.k_NoRule) rfl) (qaN (qe_glob rfl X.m_NoTree (v := V.ref T.k_NoTree) rfl) (qaN (qe_glob rfl X.m_NoPlace (v := V.ref T.k_NoPlace) rfl) (qaN (qe_glob rfl X.m_NoGiven (v := V.ref T.k_NoGiven) rfl) (qaN (qe_glob rfl X.m_NoWalk (v := V.ref T.k_NoWalk) rfl) (qaN (qe_glob rfl X.m_Ring (v := V.ref T.k_Ring) rfl) qa_nil)))))))))) qa_nil))) qa_nil))))))) (qss_one (qs_ret (qe_and (qe_cmpR (op_eqD hr.units) (qv 2) (qe_lst (qaC qe_bl (qaC qe_bl qa_nil))) (nomark _)) (qe_one (qe_cmpR (op_eqD hr.units) (qv 3) (qe_lst (qaC qe_bl qa_nil)) (nomark _))))))))), ?_⟩
  refine ⟨(by show 0 ≤ sizeLine; decide), fun o1 ho1 => ⟨(by show 0 ≤ sizeLine; decide), fun o2 ho2 => ?_⟩⟩
  have O1 := same_new ho1 (.lst [])
  have O2 := same_new ho2 (.lst [])
  refine ⟨_, rfl, _, rfl, a, d, ks, rfl, (O1.trans O2) _ _ ha, kok, wok, ?_⟩
  rw [hm]
  refine fun H2 s2 => ⟨T.k_NoKind, rfl, X.e_NoKind, X.u_NoKind_LeafError, fun ex hex => ?_⟩
  have E1 := same_new hex (excO ex T.k_NoKind)
  refine ⟨_, rfl, ex, T.k_NoKind, _, _, rfl, upd_same, X.x_NoKind, .inl ⟨_, rfl, X.i_NoKind_0⟩, ?_⟩
  refine ⟨_, rfl, ex, T.k_NoKind, _, _, rfl, upd_same, X.x_NoKind, .inr (.inl ⟨_, rfl, X.i_NoKind_1⟩), (by show 2 ≤ sizeLine; decide), fun p1 hp1 => ?_⟩
  have E2 := same_new hp1 (.lst [.bl true, .bl true])
  refine ⟨_, rfl, (by show 9 ≤ sizeLine; decide), fun tp htp => ?_⟩
  have E3 := same_new htp (.tup ([T.k_NoText, T.k_TooGreat, T.k_NoName, T.k_NoRule, T.k_NoTree, T.k_NoPlace, T.k_NoGiven, T.k_NoWalk, T.k_Ring].map V.ref))
  refine ⟨ex, T.k_NoKind, _, _, rfl, (E2.trans E3) _ _ upd_same, X.x_NoKind, .inr (.inr ⟨tp, [T.k_NoText, T.k_TooGreat, T.k_NoName, T.k_NoRule, T.k_NoTree, T.k_NoPlace, T.k_NoGiven, T.k_NoWalk, T.k_Ring], rfl, upd_same, X.i_NoKind_2⟩), (by show 1 ≤ sizeLine; decide), fun p2 hp2 => ?_⟩
  have E4 := same_new hp2 (.lst [.bl false])
  refine ⟨_, rfl, (by show 2 ≤ sizeLine; decide), fun r1 hr1 => ?_⟩
  have E5 := same_new hr1 (.lst [.bl true, .bl true])
  refine ⟨p1, r1, [.bl true, .bl true], [.bl true, .bl true], [.fl (.bl true), .fl (.bl true)], [.fl (.bl true), .fl (.bl true)], rfl, rfl, .inr ⟨SqL.of ((E3.trans (E4.trans E5)) _ _ upd_same), SqL.of upd_same⟩, isds2, isds2, by decide, true, rfl, iteY rfl ?_⟩
  refine ⟨_, rfl, (by show 1 ≤ sizeLine; decide), fun r2 hr2 => ?_⟩
  have E6 := same_new hr2 (.lst [.bl false])
  refine ⟨p2, r2, [.bl false], [.bl false], [.fl (.bl false)], [.fl (.bl false)], rfl, rfl, .inr ⟨SqL.of ((E5.trans E6) _ _ upd_same), SqL.of upd_same⟩, isds1, isds1, by decide, ?_⟩
  exact q _ (O1.trans (O2.trans (s2.trans (E1.trans (E2.trans (E3.trans (E4.trans (E5.trans E6))))))))
theorem ok_madeL (X : Tx K w mg T) : FnOk P w K mg base CX0 6 T.qmade T.d_qmade ["_law_word", "_law_kinds_here"] spMadeL := by
  have G_qdue := (ok_due (P := P) (w := w) (base := base) X).mono (show 2 ≤ 5 by decide)
  have G_qrefused := ok_refused (P := P) (w := w) (base := base) X
  have G_qmadekind := (ok_made (P := P) (w := w) (base := base) X).mono (show 4 ≤ 5 by decide)
  refine X.F_qmade.okQ sc_qmade (fun vs H Q E h => ?_) (fun cdv A outer s H vs Q E hr h => ?_)
  · obtain ⟨_, _, _, rfl, _⟩ := h
    rfl
  obtain ⟨a, d, ks, rfl, ha, kok, wok, q⟩ := h
  refine ⟨_, (qss_cons (qs_set (i := 2) sc_qmade.nd rfl (Or.inl rfl) (qe_call G_qdue hr rfl X.m_qdue X.F_qdue.kp X.b_qdue .nil pass0 (qaN (qv 0) (qaN (qv 1) qa_nil)))) (qss_cons (qs_set (i := 3) sc_qmade.nd rfl (Or.inl rfl) (qe_callTy call_list_of rfl X.z_list PyProof.Rows.boot_list (qaN (qv 1) qa_nil))) (qss_cons (qs_if (qt_cmpR op_eq (qv 2) qe_str (nomark _)) (qss_one (qs_ret (qe_and (qe_call G_qrefused hr rfl X.m_qrefused X.F_qrefused.kp X.b_qrefused .nil pass0 (qaN (qv 0) (qaN (qv 3) qa_nil))) (qe_one (qe_cmpR (op_eqD hr.units) (qv 3) (qv 1) (nomark _)))))) qss_nil) (qss_cons (qs_set (i := 4) sc_qmade.nd rfl (Or.inl rfl) (qe_call G_qmadekind hr rfl X.m_qmadekind X.F_qmadekind.kp X.b_qmadekind .nil passE0 (qaN (qv 0) (qaN (qv 3) qa_nil)))) (qss_one (qs_ret (qe_and (qe_callB call_isinst rfl X.z_isinstance PyProof.Rows.boot_isinstance (qaN (qv 4) (qaN (qe_bltn rfl X.z_str PyProof.Rows.boot_str rfl (v := .ty "str")) qa_nil))) (qe_and (qe_cmpR op_eq (qv 4) (qv 2) (nomark _)) (qe_one (qe_cmpR (op_eqD hr.units) (qv 3) (qv 1) (nomark _))))))))))), ?_⟩
  refine ⟨_, rfl, _, rfl, a, d, ks, rfl, ha, kok, fun H1 s1 => ⟨_, rfl, a, _, rfl, .inl (SqL.of (s1 _ _ ha)), fun b hb => ?_⟩⟩
  have B1 := same_new hb (.lst (ks.map V.str))
  have eqs : ∀ {H' : Hp}, Same (upd H1 b (.lst (ks.map V.str))) H' → SqL K H' b (ks.map V.str) ∧ SqL K H' a (ks.map V.str) := fun sm => ⟨SqL.of (sm _ _ upd_same), SqL.of (sm _ _ (B1 _ _ (s1 _ _ ha)))⟩
  have eqt : eqDs (ks.map fun n => Da.fl (.str n)) (ks.map fun n => Da.fl (.str n)) = true := by rw [eqDs_strs]; exact decide_eq_true rfl
  cases hm : madeK d ks with
  | none =>
    have e : dueK d ks = "" := by unfold dueK; rw [hm]; rfl
    rw [e]
    refine ⟨_, rfl, rfl, _, rfl, iteYd rfl ?_⟩
    refine ⟨_, rfl, _, rfl, b, d, ks, rfl, upd_same, kok, wok, hm, fun H2 s2 => ⟨true, rfl, iteY rfl ?_⟩⟩
    obtain ⟨e1, e2⟩ := eqs s2
    refine ⟨_, rfl, _, rfl, b, a, _, _, _, _, rfl, rfl, .inr ⟨e1, e2⟩, isds_strs ks, isds_strs ks, by rw [dep_strs]; decide, ?_⟩
    rw [eqt]
    exact q _ (s1.trans (B1.trans s2))
  | some k =>
    have e : dueK d ks = k := by unfold dueK; rw [hm]; rfl
    have hne := made_ne hm kok
    rw [e]
    refine ⟨_, rfl, rfl, _, rfl, iteNd (fun z => hne (V.str.inj z)) ?_⟩
    refine ⟨_, rfl, _, rfl, b, d, ks, rfl, upd_same, kok, wok, ?_⟩
    rw [hm]
    refine fun H2 s2 => ⟨_, rfl, _, "str", _, _, rfl, .str k, t_ss, true, rfl, iteY rfl ?_⟩
    refine ⟨_, rfl, _, rfl, rfl, _, rfl, iteYd rfl ?_⟩
    obtain ⟨e1, e2⟩ := eqs s2
    refine ⟨_, rfl, _, rfl, b, a, _, _, _, _, rfl, rfl, .inr ⟨e1, e2⟩, isds_strs ks, isds_strs ks, by rw [dep_strs]; decide, ?_⟩
    rw [eqt]
    exact q _ (s1.trans (B1.trans s2))
end
end K3
set_option Elab.async false
set_option linter.all false
set_option maxRecDepth 100000
set_option maxHeartbeats 4000000
namespace K3
open PySem L2
abbrev WL : List V := [.str "add", .str "sub", .str "mul", .str "less", .str "pick", .str "glue", .str "show", .str "size", .str "put", .str "link", .str "at", .str "many"] ++ [.str "", .str "adds", .str "mark", .str "num"]
theorem word_all (j : Nat) (hj : j < 16) : ∃ d, WL[j]? = some (.str d) ∧ d.cps.size ≤ 10 ∧ (d.cps.toList.all fun c => decide (c < 16 ^ 8)) = true := by
  match j, hj with
  | 0, _ => exact ⟨"add", rfl, by decide, by decide⟩
  | 1, _ => exact ⟨"sub", rfl, by decide, by decide⟩
  | 2, _ => exact ⟨"mul", rfl, by decide, by decide⟩
  | 3, _ => exact ⟨"less", rfl, by decide, by decide⟩
  | 4, _ => exact ⟨"pick", rfl, by decide, by decide⟩
  | 5, _ => exact ⟨"glue", rfl, by decide, by decide⟩
  | 6, _ => exact ⟨"show", rfl, by decide, by decide⟩
  | 7, _ => exact ⟨"size", rfl, by decide, by decide⟩
  | 8, _ => exact ⟨"put", rfl, by decide, by decide⟩
  | 9, _ => exact ⟨"link", rfl, by decide, by decide⟩
  | 10, _ => exact ⟨"at", rfl, by decide, by decide⟩
  | 11, _ => exact ⟨"many", rfl, by decide, by decide⟩
  | 12, _ => exact ⟨"", rfl, by decide, by decide⟩
  | 13, _ => exact ⟨"adds", rfl, by decide, by decide⟩
  | 14, _ => exact ⟨"mark", rfl, by decide, by decide⟩
  | 15, _ => exact ⟨"num", rfl, by decide, by decide⟩
  | n + 16, h => exact absurd h (by omega)
theorem word_at (c : Int) : ∃ d, atI WL (c % 16) = some (.str d) ∧ WordOk d := by
  have h0 := Int.emod_nonneg c (show (16 : Int) ≠ 0 by decide)
  have h1 := Int.emod_lt_of_pos c (show (0 : Int) < 16 by decide)
  obtain ⟨j, hj⟩ := Int.eq_ofNat_of_zero_le h0
  obtain ⟨d, hd, ok⟩ := word_all j (by omega)
  rw [hj]
  exact ⟨d, atI_nat hd, ok⟩
def spLaw (K : PySem.W.Frag) : Sp := fun vs H Q _ => ∃ (a : Addr) (ns : List Int), vs = [.ref a] ∧ SqL K H a (ns.map V.int) ∧ ns.length ≤ 63 ∧ ∀ H', Q (.bl true) H'
section
variable {P : Program} {w : World} {K : PySem.W.Frag} {mg : Str → Option Value} {base : Heap} {T : Adr}
theorem ok_law (X : Tx K w mg T) : FnOk P w K mg base CX0 40 T.law T.d_law ["_law_script"] (spLaw K) := by
  have G_qcellat := (ok_cell (P := P) (w := w) (base := base) X).mono (show 1 ≤ 39 by decide)
  have G_qtexts := (ok_texts (P := P) (w := w) (base := base) X).mono (show 2 ≤ 39 by decide)
  have G_qrows := (ok_rows (P := P) (w := w) (base := base) X).mono (show 2 ≤ 39 by decide)
  have G_qnumbers := (ok_numbers (P := P) (w := w) (base := base) X).mono (show 1 ≤ 39 by decide)
  have G_qtold := (ok_told (P := P) (w := w) (base := base) X).mono (show 5 ≤ 39 by decide)
  have G_qiskind := (ok_kind (P := P) (w := w) (base := base) X).mono (show 4 ≤ 39 by decide)
  have G_qkinds := (ok_kinds (P := P) (w := w) (base := base) X).mono (show 2 ≤ 39 by decide)
  have G_qmade := (ok_madeL (P := P) (w := w) (base := base) X).mono (show 6 ≤ 39 by decide)
  refine X.F_law.okQ sc_law (fun vs H Q E h => ?_) (fun cdv A outer s H vs Q E hr h => ?_)
  · obtain ⟨_, _, rfl, _⟩ := h
    rfl
  obtain ⟨a, ns, rfl, hS, hz, q⟩ := h
  refine ⟨_, (qss_cons (qs_set (i := 1) sc_law.nd rfl (Or.inl rfl) (qe_call G_qcellat hr rfl X.m_qcellat X.F_qcellat.kp X.b_qcellat .nil pass0 (qaN (qv 0) (qaC qe_int qa_nil)))) (qss_cons (qs_for PassesOwn.never rfl (qi_list (qe_op op_cat (qe_op op_cat (qe_call G_qtexts hr rfl X.m_qtexts X.F_qtexts.kp X.b_qtexts .nil pass0 (qaN (qv 1) qa_nil)) (qe_call G_qrows hr rfl X.m_qrows X.F_qrows.kp X.b_qrows .nil pass0 (qaN (qv 1) qa_nil))) (qe_call G_qnumbers hr rfl X.m_qnumbers X.F_qnumbers.kp X.b_qnumbers .nil pass0 (qaN (qv 1) qa_nil)))) (qg_tup rfl (qgs_cons (qg_name (i := 2) sc_law.nd rfl (Or.inl rfl)) (qgs_cons (qg_name (i := 3) sc_law.nd rfl (Or.inl rfl)) qgs_nil))) (qss_one (qs_if (qt_not (qt_val (qe_call G_qtold hr rfl X.m_qtold X.F_qtold.kp X.b_qtold .nil pass0 (qaN (qv 2) (qaN (qv 3) qa_nil))))) qss_never qss_nil))) (qss_cons (qs_set (i := 4) sc_law.nd rfl (Or.inl rfl) (qe_lst (qaC qe_str (qaC qe_str (qaC qe_str (qaC qe_str (qaC qe_str (qaC qe_str (qaC qe_str (qaC qe_str (qaC qe_str (qaC qe_str (qaC qe_str (qaC qe_str qa_nil)))))))))))))) (qss_cons (qs_set (i := 4) sc_law.nd rfl (Or.inl rfl) (qe_op op_cat (qv 4) (qe_lst (qaC qe_str (qaC qe_str (qaC qe_str (qaC qe_str qa_nil))))))) (qss_cons (qs_for PassesOwn.never rfl (qi_list (qe_op op_cat (qe_callTy (call_list_rng rfl) rfl X.z_list PyProof.Rows.boot_list (qaK (qe_callTy call_range1 rfl X.z_range PyProof.Rows.boot_range (qaC qe_int qa_nil)) qa_nil)) (qe_callTy call_list_of rfl X.z_list PyProof.Rows.boot_list (qaN (qv 0) qa_nil)))) (qg_name (i := 5) sc_law.nd rfl (Or.inl rfl)) (qss_cons (qs_set (i := 6) sc_law.nd rfl (Or.inl rfl) (qe_op op_sub (qe_op op_mod (qv 5) (qe_op op_mul qe_int (qe_op op_pow qe_int qe_int))) (qe_op op_pow qe_int qe_int))) (qss_cons (qs_if (qt_cmpR op_ne (qe_call G_qiskind hr rfl X.m_qiskind X.F_qiskind.kp X.b_qiskind .nil pass0 (qaC qe_str (qaN (qv 6) qa_nil))) (qe_and (qe_cmpR op_le qe_int (qv 6) (nomark _)) (qe_one (qe_cmpR op_lt (qv 6) (qe_op op_pow qe_int qe_int) (nomark _)))) (nomark _)) qss_never qss_nil) (qss_cons (qs_set (i := 7) sc_law.nd rfl (Or.inl rfl) (qe_ix ix_list (qv 4) (qe_op op_mod (qv 5) qe_int) (fun _ _ => rfl))) (qss_one (qs_if (qt_not (qt_val (qe_call G_qmade hr rfl X.m_qmade X.F_qmade.kp X.b_qmade .nil pass0 (qaN (qv 7) (qaK (qe_call G_qkinds hr rfl X.m_qkinds X.F_qkinds.kp X.b_qkinds .nil pass0 (qaN (qv 7) (qaB (qe_op op_fdiv (qv 5) qe_int) qa_nil))) qa_nil))))) qss_never qss_nil)))))) (qss_one (qs_ret qe_bl))))))), ?_⟩
  refine ⟨_, rfl, a, ns, rfl, hS, fun n => ?_⟩
  refine ⟨_, rfl, n, rfl, fun l1 ps1 H1 s1 hl1 z1 ok1 => ⟨_, rfl, n, rfl, fun l2 ps2 H2 s2 hl2 z2 ok2 => ⟨l1, l2, _, _, rfl, rfl, s2 _ _ hl1, hl2, fitsS (by omega), fun l3 hl3 => ?_⟩⟩⟩
  have A3 := same_new hl3 (.lst (ps1 ++ ps2))
  refine ⟨_, rfl, n, rfl, fun l4 ps4 H4 s4 hl4 z4 ok4 => ⟨l3, l4, _, _, rfl, rfl, s4 _ _ upd_same, hl4, by rw [List.length_append]; exact fitsS (by omega), fun l5 hl5 => ?_⟩⟩
  have A5 := same_new hl5 (.lst (ps1 ++ ps2 ++ ps4))
  have all : ∀ p ∈ ps1 ++ ps2 ++ ps4, PairOk (upd H4 l5 (.lst (ps1 ++ ps2 ++ ps4))) p := fun p hp => by
    rcases List.mem_append.mp hp with h | h
    · rcases List.mem_append.mp h with h | h
      · exact (ok1 p h).same (s2.trans (A3.trans (s4.trans A5)))
      · exact (ok2 p h).same (A3.trans (s4.trans A5))
    · exact (ok4 p h).same A5
  have sA := s1.trans (s2.trans (A3.trans (s4.trans A5)))
  have hS5 := Same.seq sA hS
  have hl5' := upd_same (H := H4) (a := l5) (o := .lst (ps1 ++ ps2 ++ ps4))
  generalize upd H4 l5 (.lst (ps1 ++ ps2 ++ ps4)) = H5 at all hS5 hl5' ⊢
  generalize ps1 ++ ps2 ++ ps4 = ps at all hl5' ⊢
  refine ⟨l5, rfl, ⟨_, SqL.of hl5'⟩, for_list (K := K) (a := l5) (xs := ps) (fun i σ H' => (∃ x y, σ = [some (.ref a), some (.int n), x, y, none, none, none, none]) ∧ Same H5 H') ⟨⟨none, none, rfl⟩, Same.refl _⟩ (fun i σ H' _ ⟨_, sm⟩ => SqL.of (sm _ _ hl5')) ?_ ?_⟩
  · rintro i x σ H' hx ⟨⟨x0, y0, rfl⟩, sm⟩
    obtain ⟨p, v, k, n', t, r, rfl, hp, th, ow⟩ := (all x (List.mem_of_getElem? hx)).same sm
    refine ⟨p, _, rfl, SqT.of hp, rfl, _, _, rfl, _, _, rfl, rfl, ?_⟩
    exact ⟨_, rfl, _, rfl, v, k, n', t, r, rfl, th, ow, fun H2 s2' => ⟨true, rfl, ⟨_, _, rfl⟩, sm.trans s2'⟩⟩
  rintro σ H6 ⟨⟨x0, y0, rfl⟩, s6⟩
  have hS6 := Same.seq s6 hS5
  refine ⟨(by show 12 ≤ sizeLine; decide), fun w1 hw1 => ⟨_, rfl, (by show 4 ≤ sizeLine; decide), fun w2 hw2 => ?_⟩⟩
  have W1 := same_new hw1 (.lst [.str "add", .str "sub", .str "mul", .str "less", .str "pick", .str "glue", .str "show", .str "size", .str "put", .str "link", .str "at", .str "many"])
  have W2 := same_new hw2 (.lst [.str "", .str "adds", .str "mark", .str "num"])
  refine ⟨w1, w2, _, _, rfl, rfl, W2 _ _ upd_same, upd_same, (by show 16 ≤ sizeLine; decide), fun w3 hw3 => ?_⟩
  have W3 := same_new hw3 (.lst WL)
  refine ⟨16, rfl, fun rg hrg => ⟨rg, 16, rfl, upd_same, by decide, by decide, fun m1 hm1 => ?_⟩⟩
  have R1 := same_new hrg (.rng 0 16)
  have R2 := same_new hm1 (.lst ((List.range (16 : Int).toNat).map fun (i : Nat) => V.int (i : Int)))
  refine ⟨_, rfl, a, _, rfl, .inl (Same.seq (W1.trans (W2.trans (W3.trans (R1.trans R2)))) hS6), fun m2 hm2 => ?_⟩
  have R3 := same_new hm2 (.lst (ns.map V.int))
  refine ⟨m1, m2, _, _, rfl, rfl, R3 _ _ upd_same, upd_same, by rw [List.length_map, List.length_map, List.length_range]; exact fitsS (by show 16 + _ ≤ _; omega), fun m3 hm3 => ?_⟩
  have R4 := same_new hm3 (.lst (((List.range (16 : Int).toNat).map fun (i : Nat) => V.int (i : Int)) ++ ns.map V.int))
  have hw3' := (R1.trans (R2.trans (R3.trans R4))) _ _ (upd_same (a := w3) (o := .lst WL))
  have hm3' := upd_same (H := upd (upd (upd (upd (upd (upd H6 w1 (.lst [.str "add", .str "sub", .str "mul", .str "less", .str "pick", .str "glue", .str "show", .str "size", .str "put", .str "link", .str "at", .str "many"])) w2 (.lst [.str "", .str "adds", .str "mark", .str "num"])) w3 (.lst WL)) rg (.rng 0 16)) m1 (.lst ((List.range (16 : Int).toNat).map fun (i : Nat) => V.int (i : Int)))) m2 (.lst (ns.map V.int))) (a := m3) (o := .lst (((List.range (16 : Int).toNat).map fun (i : Nat) => V.int (i : Int)) ++ ns.map V.int))
  generalize upd (upd (upd (upd (upd (upd (upd H6 w1 (.lst [.str "add", .str "sub", .str "mul", .str "less", .str "pick", .str "glue", .str "show", .str "size", .str "put", .str "link", .str "at", .str "many"])) w2 (.lst [.str "", .str "adds", .str "mark", .str "num"])) w3 (.lst WL)) rg (.rng 0 16)) m1 (.lst ((List.range (16 : Int).toNat).map fun (i : Nat) => V.int (i : Int)))) m2 (.lst (ns.map V.int))) m3 (.lst (((List.range (16 : Int).toNat).map fun (i : Nat) => V.int (i : Int)) ++ ns.map V.int)) = H9 at hw3' hm3' ⊢
  have isI : ∀ x ∈ ((List.range (16 : Int).toNat).map fun (i : Nat) => V.int (i : Int)) ++ ns.map V.int, ∃ c, x = .int c := fun x hx => by
    rcases List.mem_append.mp hx with h | h
    · obtain ⟨c, _, rfl⟩ := List.mem_map.mp h; exact ⟨_, rfl⟩
    · obtain ⟨c, _, rfl⟩ := List.mem_map.mp h; exact ⟨_, rfl⟩
  generalize ((List.range (16 : Int).toNat).map fun (i : Nat) => V.int (i : Int)) ++ ns.map V.int = cs at hm3' isI ⊢
  refine ⟨m3, rfl, ⟨_, SqL.of hm3'⟩, for_list (K := K) (a := m3) (xs := cs) (fun i σ H' => (∃ x y z, σ = [some (.ref a), some (.int n), x0, y0, some (.ref w3), x, y, z]) ∧ Same H9 H') ⟨⟨none, none, none, rfl⟩, Same.refl _⟩ (fun i σ H' _ ⟨_, sm⟩ => SqL.of (sm _ _ hm3')) ?_ (fun σ H' _ => q H')⟩
  rintro i x σ H' hx ⟨⟨x1, y1, z1, rfl⟩, sm⟩
  obtain ⟨c, rfl⟩ := isI x (List.mem_of_getElem? hx)
  obtain ⟨d, hd, wok⟩ := word_at c
  refine ⟨_, rfl, _, _, rfl, rfl, ⟨by decide, by decide, by decide⟩, _, _, rfl, rfl, .inl ⟨by decide, by decide⟩, _, _, rfl, rfl, (by show (0 : Int) < 4 * 10 ^ Int.toNat 18; decide), _, _, rfl, rfl, ⟨by decide, by decide, by decide⟩, _, _, rfl, rfl, ?_⟩
  refine ⟨_, rfl, "num", .int (c % (4 * 10 ^ Int.toNat 18) - 10 ^ Int.toNat 18), _, _, _, rfl, .int _, fun H2 s2' => ⟨_, rfl, _, _, rfl, rfl, _, rfl, ?_⟩⟩
  have ek : ∀ m : Int, kindB "num" (numV (.int m)) false false = (decide (0 ≤ m) && decide (m < LIM)) := fun m => by unfold kindB; rw [if_pos rfl]; rfl
  refine iteDd (fun h0 => ?_) (fun h0 => ?_)
  · refine ⟨_, rfl, _, _, rfl, rfl, ⟨by decide, by decide, by decide⟩, _, _, rfl, rfl, rfl, _, rfl, iteN ?_ ?_⟩
    · rw [ek, decide_eq_true h0, Bool.true_and]
      have big : (10 ^ Int.toNat 18 : Int) = LIM := by decide
      rw [big]
      simp
    refine ⟨_, rfl, _, rfl, _, _, rfl, rfl, (by show (0 : Int) < 16; decide), w3, _, _, _, rfl, rfl, SqL.of ((sm.trans s2') _ _ hw3'), hd, ?_⟩
    exact ⟨_, rfl, _, rfl, _, rfl, _, _, rfl, rfl, ⟨by decide, by decide⟩, d, _, rfl, fun l ks H3 s3 nl hl kok => ⟨l, d, ks, rfl, hl, kok, wok, fun H8 s8 => ⟨true, rfl, ⟨_, _, _, rfl⟩, sm.trans (s2'.trans (s3.trans s8))⟩⟩⟩
  · refine ⟨rfl, _, rfl, iteN ?_ ?_⟩
    · rw [ek, decide_eq_false h0, Bool.false_and]
      simp
    refine ⟨_, rfl, _, rfl, _, _, rfl, rfl, (by show (0 : Int) < 16; decide), w3, _, _, _, rfl, rfl, SqL.of ((sm.trans s2') _ _ hw3'), hd, ?_⟩
    exact ⟨_, rfl, _, rfl, _, rfl, _, _, rfl, rfl, ⟨by decide, by decide⟩, d, _, rfl, fun l ks H3 s3 nl hl kok => ⟨l, d, ks, rfl, hl, kok, wok, fun H8 s8 => ⟨true, rfl, ⟨_, _, _, rfl⟩, sm.trans (s2'.trans (s3.trans s8))⟩⟩⟩
end
end K3
set_option Elab.async false
set_option linter.all false
set_option maxRecDepth 100000
open PySem PySem.W PyProof.Rows
set_option maxRecDepth 100000 in
set_option maxHeartbeats 0 in
theorem PySem.Challenge.cw_leafsay_k03_kinds_told_holds : PySem.Challenge.rw_leafsay_k03_kinds_told.Holds := by
  w_on; o_law; k_head; (case hw => w_witness2)
  k_fill
  refine L2.walk_ofK (l := PySem.Challenge.rw_leafsay_k03_kinds_told) (n := 63) (k := 40) (x := "_law_script") (CX := L2.CX0) (sp := K3.spLaw) rfl (by decide) rfl ⟨rfl, by decide, by decide, rfl⟩ (fun w h Y => PySem.W.kIn_of Y) ?F (fun K H a ns hl _ hS => ⟨a, ns, rfl, hS, hl, fun _ => rfl⟩) (fun _ _ _ _ z => z)
  case F =>
    intro w mg fa h KX G hmg
    have T : ∃ T : K3.Adr, K3.Tx (L2.KOf KX) w mg T := by
      dsimp only [L2.KOf]
      refine' K3.tx_mk KX G ?a0 ?l0 ?c0 ?k0 ?a1 ?l1 ?c1 ?k1 ?a2 ?l2 ?c2 ?k2 ?a3 ?l3 ?c3 ?k3 ?a4 ?l4 ?c4 ?k4 ?a5 ?l5 ?c5 ?k5 ?a6 ?l6 ?c6 ?k6 ?a7 ?l7 ?c7 ?k7 ?a8 ?l8 ?c8 ?k8 ?a9 ?l9 ?c9 ?k9 ?a10 ?l10 ?c10 ?k10 ?a11 ?l11 ?c11 ?k11 ?a12 ?l12 ?c12 ?k12 ?a13 ?l13 ?c13 ?k13 ?a14 ?l14 ?c14 ?k14 ?a15 ?l15 ?c15 ?k15 ?a16 ?l16 ?c16 ?k16 ?a17 ?l17 ?c17 ?k17 ?a18 ?l18 ?c18 ?k18 ?z_ValueError ?z_all ?z_bool ?z_int ?z_isinstance ?z_len ?z_list ?z_range ?z_str ?z_tuple ?c_LIMIT ?c_MOST_SIGNS ?c_MOST_NUMS ?c_SIGNS ?m_LeafError ?m_NoText ?m_TooGreat ?m_NoName ?m_NoRule ?m_NoKind ?m_NoTree ?m_NoPlace ?m_NoGiven ?m_NoWalk ?m_Ring ?e_LeafError ?e_NoKind ?xga_NoKind ?xgt_NoKind ?xca_NoKind ?xsp_NoKind ?xtk_NoKind ?xmo_NoKind ?xmb_NoKind ?u_NoKind_LeafError ?i_NoKind_0 ?i_NoKind_1 ?i_NoKind_2 ?c_NEEDS ?dl_NEEDS ?dk_NEEDS ?dv_NEEDS ?y_NEEDS ?q_NEEDS_0 ?q_NEEDS_1 ?q_NEEDS_2 ?q_NEEDS_3 ?q_NEEDS_4 ?q_NEEDS_5 ?q_NEEDS_6 ?q_NEEDS_7 ?q_NEEDS_8 ?q_NEEDS_9 ?q_NEEDS_10 ?c_MAKES ?dl_MAKES ?dk_MAKES ?dv_MAKES ?y_MAKES
      (case a0 => k_is)
      (case l0 => k_is)
      (case c0 => k_is)
      (case k0 => k_is)
      (case a1 => k_is)
      (case l1 => k_is)
      (case c1 => k_is)
      (case k1 => k_is)
      (case a2 => k_is)
      (case l2 => k_is)
      (case c2 => k_is)
      (case k2 => k_is)
      (case a3 => k_is)
      (case l3 => k_is)
      (case c3 => k_is)
      (case k3 => k_is)
      (case a4 => k_is)
      (case l4 => k_is)
      (case c4 => k_is)
      (case k4 => k_is)
      (case a5 => k_is)
      (case l5 => k_is)
      (case c5 => k_is)
      (case k5 => k_is)
      (case a6 => k_is)
      (case l6 => k_is)
      (case c6 => k_is)
      (case k6 => k_is)
      (case a7 => k_is)
      (case l7 => k_is)
      (case c7 => k_is)
      (case k7 => k_is)
      (case a8 => k_is)
      (case l8 => k_is)
      (case c8 => k_is)
      (case k8 => k_is)
      (case a9 => k_is)
      (case l9 => k_is)
      (case c9 => k_is)
      (case k9 => k_is)
      (case a10 => k_is)
      (case l10 => k_is)
      (case c10 => k_is)
      (case k10 => k_is)
      (case a11 => k_is)
      (case l11 => k_is)
      (case c11 => k_is)
      (case k11 => k_is)
      (case a12 => k_is)
      (case l12 => k_is)
      (case c12 => k_is)
      (case k12 => k_is)
      (case a13 => k_is)
      (case l13 => k_is)
      (case c13 => k_is)
      (case k13 => k_is)
      (case a14 => k_is)
      (case l14 => k_is)
      (case c14 => k_is)
      (case k14 => k_is)
      (case a15 => k_is)
      (case l15 => k_is)
      (case c15 => k_is)
      (case k15 => k_is)
      (case a16 => k_is)
      (case l16 => k_is)
      (case c16 => k_is)
      (case k16 => k_is)
      (case a17 => k_is)
      (case l17 => k_is)
      (case c17 => k_is)
      (case k17 => k_is)
      (case a18 => k_is)
      (case l18 => k_is)
      (case c18 => k_is)
      (case k18 => k_is)
      (case z_ValueError => k_is)
      (case z_all => k_is)
      (case z_bool => k_is)
      (case z_int => k_is)
      (case z_isinstance => k_is)
      (case z_len => k_is)
      (case z_list => k_is)
      (case z_range => k_is)
      (case z_str => k_is)
      (case z_tuple => k_is)
      (case c_LIMIT => k_is)
      (case c_MOST_SIGNS => k_is)
      (case c_MOST_NUMS => k_is)
      (case c_SIGNS => k_is)
      (case m_LeafError => k_is)
      (case m_NoText => k_is)
      (case m_TooGreat => k_is)
      (case m_NoName => k_is)
      (case m_NoRule => k_is)
      (case m_NoKind => k_is)
      (case m_NoTree => k_is)
      (case m_NoPlace => k_is)
      (case m_NoGiven => k_is)
      (case m_NoWalk => k_is)
      (case m_Ring => k_is)
      (case e_LeafError => k_exc)
      (case e_NoKind => k_exc)
      (case xga_NoKind => k_is)
      (case xgt_NoKind => k_is)
      (case xca_NoKind => k_is)
      (case xsp_NoKind => k_is)
      (case xtk_NoKind => k_is)
      (case xmo_NoKind => k_is)
      (case xmb_NoKind => k_is)
      (case u_NoKind_LeafError => k_is)
      (case i_NoKind_0 => kit_is)
      (case i_NoKind_1 => kit_is)
      (case i_NoKind_2 => kit_is)
      (case c_NEEDS => k_is)
      (case dl_NEEDS => k_is)
      (case dk_NEEDS => k_keys)
      (case dv_NEEDS => rfl)
      (case y_NEEDS => decide)
      (case q_NEEDS_0 => k_is)
      (case q_NEEDS_1 => k_is)
      (case q_NEEDS_2 => k_is)
      (case q_NEEDS_3 => k_is)
      (case q_NEEDS_4 => k_is)
      (case q_NEEDS_5 => k_is)
      (case q_NEEDS_6 => k_is)
      (case q_NEEDS_7 => k_is)
      (case q_NEEDS_8 => k_is)
      (case q_NEEDS_9 => k_is)
      (case q_NEEDS_10 => k_is)
      (case c_MAKES => k_is)
      (case dl_MAKES => k_is)
      (case dk_MAKES => k_keys)
      (case dv_MAKES => rfl)
      (case y_MAKES => decide)
    obtain ⟨T, TX⟩ := T
    have e0 := hmg.symm.trans TX.m_law
    cases e0
    obtain ⟨oc, od, kV, doc, pm, an, cdv, ct, osl, efd, _, _⟩ := TX.F_law.ex
    refine ⟨T.d_law, fun s u => ?_, fun base _ _ => K3.ok_law TX⟩
    rw [efd]
    exact .of_eq rfl
