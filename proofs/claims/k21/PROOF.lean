import PyProof.Rows.All
import Wide.All
import OpenK.AllK
import Wide.FinOn
import Lean
import PyProof.EqAt
import PyProof.EqKinds
import PyProof.TupleCall
import PyProof.NeKinds
import PyProof.FitsReplace
import PyProof.Rows.SumAny
import PyProof.Rows.MinMaxN
import PyProof.Rows.CallKwBuiltin
import PyProof.StrBlock2
import KE.KMinKey
import OpenK.KOwn
import PyProof.ExcArgsOwn
import KE.KIsAll
import PyProof.ReprRoads
import PyProof.ReprBulk
import PyProof.StrWalks
import PyProof.ConsumeWalk
import PyProof.StrCalls2
import PyProof.EnumMake
import PyProof.Draws
import PyProof.Rows.EnumRows
import PyProof.Rows.FactsT2
import PyProof.CompUse
import KE.KRevIter
import PyProof.ListStr
import KE.KIntText
import PyProof.StrLawsIdx
import PyProof.StrLawsNeg
import PyProof.StrLawsTight
import PyProof.StrLawsChain
import PyProof.Rows.StrItems
import PyProof.Rows.StrFirst
import PyProof.Rows.StrLawsPart
import PyProof.Rows.Range3
import PyProof.Rows.StrWeight2
import PyProof.AutoListH
import PyProof.TupleOfGen
import PyProof.WalksEnum
import PyProof.FactsAll.range_2
import PyProof.ZipIter
import PySem.Challenge.RW_leafsay_k21_paths_and_branches
set_option Elab.async false
set_option linter.all false
set_option maxRecDepth 100000
namespace L2
open PySem PySem.Spec PyProof.Rows

abbrev Key := Sum Int Str
def keyIs : Key → Value → Bool
  | .inl k, v => Value.isInt k v
  | .inr x, v => Value.isStrOf x v
def keyH (w : World) : Key → Int
  | .inl k => hashInt k
  | .inr x => hashStr w x
theorem keyIs_shape : ∀ {k : Key} {v : Value}, keyIs k v = true → (∃ i t, k = Sum.inl i ∧ v = Value.int i t) ∨ (∃ x t, k = Sum.inr x ∧ v = Value.str x t)
  | .inl i, v, h => by
    obtain ⟨t, e⟩ := Value.isInt_shape (k := i) (v := v) h
    exact .inl ⟨i, t, rfl, e⟩
  | .inr x, v, h => by
    obtain ⟨t, e⟩ := Value.isStrOf_shape (x := x) (v := v) h
    exact .inr ⟨x, t, rfl, e⟩
theorem keyIs_int (i : Int) (t : Tok) : keyIs (.inl i) (.int i t) = true := by simp [keyIs, Value.isInt]
theorem keyIs_str (x : Str) (t : Tok) : keyIs (.inr x) (.str x t) = true := by simp [keyIs, Value.isStrOf]
theorem key_ll (a b : Int) : decide ((Sum.inl a : Key) = Sum.inl b) = (a == b) := by
  by_cases e : a = b
  · subst e; simp
  · have h : ¬ (Sum.inl a : Key) = Sum.inl b := fun q => e (Sum.inl.inj q)
    rw [decide_eq_false h]
    exact (beq_eq_false_iff_ne.mpr e).symm
theorem key_rr (a b : Str) : decide ((Sum.inr a : Key) = Sum.inr b) = decide (a = b) := by
  by_cases e : a = b
  · subst e; simp
  · have h : ¬ (Sum.inr a : Key) = Sum.inr b := fun q => e (Sum.inr.inj q)
    rw [decide_eq_false h, decide_eq_false e]
theorem key_lr (a : Int) (b : Str) : decide ((Sum.inl a : Key) = Sum.inr b) = false := decide_eq_false (fun q => nomatch q)
theorem key_rl (a : Str) (b : Int) : decide ((Sum.inr a : Key) = Sum.inl b) = false := decide_eq_false (fun q => nomatch q)

def mixKind (prog : Program) (w : World) : PySem.KeyKind prog w Key where
  is := keyIs
  hash := keyH w
  inj := fun v a b ha hb => by
    rcases keyIs_shape ha with ⟨i, t, rfl, rfl⟩ | ⟨x, t, rfl, rfl⟩
    · rcases keyIs_shape hb with ⟨j, u, rfl, e⟩ | ⟨y, u, rfl, e⟩
      · injection e with e1 _; rw [e1]
      · exact nomatch e
    · rcases keyIs_shape hb with ⟨j, u, rfl, e⟩ | ⟨y, u, rfl, e⟩
      · exact nomatch e
      · injection e with e1 _; rw [e1]
  byValue := fun k v h => by
    rcases keyIs_shape h with ⟨i, t, rfl, rfl⟩ | ⟨x, t, rfl, rfl⟩ <;> rfl
  pyHash := fun hv h => by
    rcases keyIs_shape hv with ⟨i, t, rfl, rfl⟩ | ⟨x, t, rfl, rfl⟩
    · exact wpAny_pyHash_int h
    · exact wpAny_pyHash_str h
  eqBool := fun hu hv h => by
    rcases keyIs_shape hu with ⟨i, t, rfl, rfl⟩ | ⟨x, t, rfl, rfl⟩
    · rcases keyIs_shape hv with ⟨j, u, rfl, rfl⟩ | ⟨y, u, rfl, rfl⟩
      · rw [key_ll] at h; exact wpAny_eqBool_int h
      · rw [key_lr] at h; exact SeqAt.EqAt.int_str i t y u _ _ _ _ h
    · rcases keyIs_shape hv with ⟨j, u, rfl, rfl⟩ | ⟨y, u, rfl, rfl⟩
      · rw [key_rl] at h; exact SeqAt.EqAt.str_int x t j u _ _ _ _ h
      · rw [key_rr] at h; exact wpAny_eqBool_str h
  «strs» := fun k x t v h => by
    rcases keyIs_shape h with ⟨i, u, rfl, e⟩ | ⟨y, u, rfl, e⟩
    · exact nomatch e
    · injection e with e1 _
      subst e1
      cases v <;> rfl

theorem mixKind_int (prog : Program) (w : World) (i : Int) (t : Tok) : (mixKind prog w).is (.inl i) (.int i t) = true := keyIs_int i t
theorem mixKind_str (prog : Program) (w : World) (x : Str) (t : Tok) : (mixKind prog w).is (.inr x) (.str x t) = true := keyIs_str x t
end L2

namespace L2
open PySem PySem.Spec PyProof.Rows

inductive V where
  | non | bl (b : Bool) | int (i : Int) | str (x : Str) | byt (b : Array UInt8) | flt (b : UInt64) | ref (a : Addr) | ty (n : String)
  deriving DecidableEq

def RelV : V → Value → Prop
  | .non, u => u = Value.none
  | .bl b, u => u = Value.bool b
  | .int i, u => ∃ t, u = Value.int i t
  | .str x, u => ∃ t, u = Value.str x t
  | .byt b, u => ∃ t, u = Value.bytes b t
  | .flt b, u => ∃ t, u = Value.float b t
  | .ref a, u => u = Value.ref a
  | .ty n, u => u = Value.type n

abbrev Vals : List V → List Value → Prop := Paired RelV
theorem Vals.length {xs : List V} {us : List Value} (r : Vals xs us) : xs.length = us.length := Paired.length r
theorem Vals.get : ∀ {xs : List V} {us : List Value} {i : Nat} {x : V}, Vals xs us → xs[i]? = some x → ∃ u, us[i]? = some u ∧ RelV x u
  | _, _, _, _, .nil, e => by simp at e
  | _, _, 0, _, .cons r _, e => by simp at e; subst e; exact ⟨_, rfl, r⟩
  | _, _, i + 1, x, .cons _ t, e => by
    obtain ⟨u, h1, h2⟩ := Vals.get (i := i) (x := x) t (by simpa using e)
    exact ⟨u, by simpa using h1, h2⟩
theorem Vals.append : ∀ {xs ys : List V} {us ws : List Value}, Vals xs us → Vals ys ws → Vals (xs ++ ys) (us ++ ws)
  | _, _, _, _, .nil, s => s
  | _, _, _, _, .cons r t, s => .cons r (Vals.append t s)
theorem Vals.take : ∀ {xs : List V} {us : List Value} (n : Nat), Vals xs us → Vals (xs.take n) (us.take n)
  | _, _, 0, _ => .nil
  | _, _, _ + 1, .nil => .nil
  | _, _, n + 1, .cons r t => .cons r (Vals.take n t)
theorem Vals.drop : ∀ {xs : List V} {us : List Value} (n : Nat), Vals xs us → Vals (xs.drop n) (us.drop n)
  | _, _, 0, r => r
  | _, _, _ + 1, .nil => .nil
  | _, _, n + 1, .cons _ t => Vals.drop n t
def RelO : Option V → Option Value → Prop
  | some v, some u => RelV v u
  | none, none => True
  | _, _ => False
def KV {κ : Type} : List (κ × V) → List (κ × Value) → Prop := Paired fun (p : κ × V) (q : κ × Value) => p.1 = q.1 ∧ RelV p.2 q.2

def kV : Key → V
  | .inl i => .int i
  | .inr x => .str x

inductive HO where
  /-- a list -/
  | lst (xs : List V)
  /-- a tuple (never changes) -/
  | tup (xs : List V)
  /-- a dict whose keys are ints and texts; one whose keys are tuples of ints and texts (the empty one is both) -/
  | dK (kvs : List (Key × V)) | dT (kvs : List (List Key × V))
  /-- a set of ints: its members, its size -/
  | set (S : Int → Bool) (n : Nat)
  /-- an instance of the class at C, its dict at dx, its attributes -/
  | ins (C dx : Addr) (fs : List (Str × V))
  /-- the dict of the instance at x -/
  | own (x : Addr)
  /-- the dict of an exception -/
  | xd (fs : List (Str × V))
  /-- a bound method, f of x -/
  | met (f x : Addr)
  /-- a range object lo, lo + 1, .. below hi -/
  | rng (lo hi : Int)
  /-- a thing that is known to the object (the script; a dict while a loop walks it): read, never written while it is so -/
  | frz (o : Obj) (u : HO)
  /-- a code object's table -/
  | tbl (ps : Array Value)
  /-- any other thing, by what is true of its one object (a def of one's own: SetO a S n := HO.ext fun h => ..) -/
  | ext (φ : Heap → Prop)

abbrev Hp := Addr → Option HO
def upd (H : Hp) (a : Addr) (o : HO) : Hp := fun b => if b = a then some o else H b
theorem upd_same {H : Hp} {a : Addr} {o : HO} : upd H a o a = some o := by unfold upd; rw [if_pos rfl]
theorem upd_ne {H : Hp} {a b : Addr} {o : HO} (h : b ≠ a) : upd H a o b = H b := by unfold upd; rw [if_neg h]
theorem ne_of {H : Hp} {a b : Addr} {o u : HO} (h : H a = some o) (h' : H b = some u) (d : o ≠ u) : a ≠ b := by
  intro e; subst e; rw [h] at h'; exact d (Option.some.inj h')
theorem ne_of_none {H : Hp} {a b : Addr} {o : HO} (h : H a = some o) (h' : H b = none) : a ≠ b := by
  intro e; subst e; rw [h] at h'; cases h'

section
variable (P : Program) (w : World)
def ObjOk (H : Hp) (h : Heap) (a : Addr) : HO → Prop
  | .lst xs => xs.length ≤ sizeLine ∧ ∃ (its : List Value) (n : Nat), Vals xs its ∧ h.get? a = some { cls := .type "list", data := .seq its.toArray n }
  | .tup xs => xs.length ≤ sizeLine ∧ ∃ its : List Value, Vals xs its ∧ IsTup h a its.toArray
  | .dK kvs => kvs.length ≤ sizeLine ∧ (a == sysModules) = false ∧ ∃ vs, KV kvs vs ∧ h.DictOf (mixKind P w) a vs
  | .dT kvs => kvs.length ≤ sizeLine ∧ (a == sysModules) = false ∧ ∃ xs : List (List Key × Addr × Value),
      Paired (fun (p : List Key × V) (q : List Key × Addr × Value) => p.1 = q.1 ∧ H q.2.1 = some (.tup (p.1.map kV)) ∧ RelV p.2 q.2.2) kvs xs ∧
      ∃ o es ep, h.get? a = some o ∧ o.ExactDict ∧ o.data = .dict es ep ∧ es.toList = xs.map (entryOfKey (tupleKind (mixKind P w))) ∧ (xs.map (·.1)).Nodup
  | .set S n => h.SetOf (intKind P w) a S n
  | .ins C dx fs => H dx = some (.own a) ∧ fs.length ≤ 1000 ∧ dx ≠ a ∧ h.get? a = some (PySem.W.instObj C dx) ∧
      ∃ mA, h.Ns1 dx mA ∧ (∀ f, RelO (fs.lookup f) (mA f)) ∧ PySem.Within mA (fs.map (·.1))
  | .own _ => ∃ o, h.get? a = some o
  | .xd fs => ∃ mA, h.Ns1 a mA ∧ ∀ f, RelO (fs.lookup f) (mA f)
  | .rng lo hi => ∃ t u v, h.get? a = some { cls := .type "range", data := .fields #[.int lo t, .int hi u, .int 1 v] }
  | .frz o u => h.get? a = some o ∧ ObjOk H h a u
  | .tbl ps => h.get? a = some { cls := .none, data := .fields ps }
  | .met f x => h.get? a = some (PySem.W.methodObj (.ref f) (.ref x))
  | .ext φ => φ h ∧ (∃ o, h.get? a = some o) ∧ ∀ h1 h2 : Heap, φ h1 → (∀ o, h1.get? a = some o → h2.get? a = some o) → φ h2
def HOk (H : Hp) (h : Heap) : Prop := ∀ a o, H a = some o → ObjOk P w H h a o
end

section
variable {P : Program} {w : World} {H H' : Hp} {h h' : Heap} {a : Addr} {o : HO}
theorem ObjOk.lt (x : ObjOk P w H h a o) : a < h.objs.size := by
  cases o with
  | lst xs => obtain ⟨_, _, _, _, e⟩ := x; exact Heap.lt_size e
  | tup xs => obtain ⟨_, _, _, p⟩ := x; exact p.lt
  | dK kvs => obtain ⟨_, _, _, _, o, _, _, e, _⟩ := x; exact Heap.lt_size e
  | dT kvs => obtain ⟨_, _, _, _, o, _, _, e, _⟩ := x; exact Heap.lt_size e
  | set S n => obtain ⟨o, _, _, _, e, _⟩ := x; exact Heap.lt_size e
  | ins C dx fs => obtain ⟨_, _, _, e, _⟩ := x; exact Heap.lt_size e
  | own y => obtain ⟨_, e⟩ := x; exact Heap.lt_size e
  | xd fs => obtain ⟨_, ⟨_, _, _, e, _⟩, _⟩ := x; exact Heap.lt_size e
  | rng lo hi => obtain ⟨_, _, _, e⟩ := x; exact Heap.lt_size e
  | frz ob u => obtain ⟨e, _⟩ := x; exact Heap.lt_size e
  | tbl ps => exact Heap.lt_size (show h.get? a = some _ from x)
  | met f y => exact Heap.lt_size (show h.get? a = some _ from x)
  | ext φ => obtain ⟨_, ⟨_, e⟩, _⟩ := x; exact Heap.lt_size e
theorem Paired.mapP {α β : Type} {F G : α → β → Prop} : ∀ {l₁ : List α} {l₂ : List β}, Paired F l₁ l₂ → (∀ a b, F a b → G a b) → Paired G l₁ l₂
  | _, _, .nil, _ => .nil
  | _, _, .cons r t, f => .cons (f _ _ r) (Paired.mapP t f)
theorem ObjOk.stay (x : ObjOk P w H h a o) (k : ∀ b u, (b = a ∨ H b = some (.own a)) → h.get? b = some u → h'.get? b = some u)
    (ho : ∀ b, H b = some (.own a) → H' b = some (.own a)) (ht : ∀ b xs, H b = some (.tup xs) → H' b = some (.tup xs)) : ObjOk P w H' h' a o := by
  induction o with
  | lst xs => obtain ⟨z, its, n, r, e⟩ := x; exact ⟨z, its, n, r, k _ _ (.inl rfl) e⟩
  | tup xs => obtain ⟨z, its, r, ob, e, c⟩ := x; exact ⟨z, its, r, ob, k _ _ (.inl rfl) e, c⟩
  | dK kvs => obtain ⟨z, y, vs, r, ob, es, ep, e, c⟩ := x; exact ⟨z, y, vs, r, ob, es, ep, k _ _ (.inl rfl) e, c⟩
  | dT kvs =>
    obtain ⟨z, y, xs, r, ob, es, ep, e, c⟩ := x
    exact ⟨z, y, xs, Paired.mapP r fun p q z => ⟨z.1, ht _ _ z.2.1, z.2.2⟩, ob, es, ep, k _ _ (.inl rfl) e, c⟩
  | set S n => obtain ⟨ob, es, ep, t, e, c⟩ := x; exact ⟨ob, es, ep, t, k _ _ (.inl rfl) e, c⟩
  | ins C dx fs =>
    obtain ⟨d, z, ne, e, mA, ⟨od, es, ep, e2, c⟩, r⟩ := x
    exact ⟨ho _ d, z, ne, k _ _ (.inl rfl) e, mA, ⟨od, es, ep, k _ _ (.inr d) e2, c⟩, r⟩
  | own y => obtain ⟨ob, e⟩ := x; exact ⟨ob, k _ _ (.inl rfl) e⟩
  | xd fs => obtain ⟨mA, ⟨od, es, ep, e, c⟩, r⟩ := x; exact ⟨mA, ⟨od, es, ep, k _ _ (.inl rfl) e, c⟩, r⟩
  | rng lo hi => obtain ⟨t, u, v, e⟩ := x; exact ⟨t, u, v, k _ _ (.inl rfl) e⟩
  | frz ob u ih => obtain ⟨e, q⟩ := x; exact ⟨k _ _ (.inl rfl) e, ih q⟩
  | tbl ps =>
    have e : h.get? a = some { cls := .none, data := .fields ps } := x
    show h'.get? a = some { cls := .none, data := .fields ps }
    exact k a _ (.inl rfl) e
  | met f y =>
    have e : h.get? a = some (PySem.W.methodObj (.ref f) (.ref y)) := x
    show h'.get? a = some (PySem.W.methodObj (.ref f) (.ref y))
    exact k a _ (.inl rfl) e
  | ext φ => obtain ⟨p, ⟨o, e⟩, st⟩ := x; exact ⟨st _ _ p fun o q => k _ _ (.inl rfl) q, ⟨o, k _ _ (.inl rfl) e⟩, st⟩
theorem HOk.lt (x : HOk P w H h) (e : H a = some o) : a < h.objs.size := (x a o e).lt
theorem HOk.fresh (x : HOk P w H h) (e : h.objs.size ≤ a) : H a = none := by
  cases q : H a with
  | none => rfl
  | some u => exact absurd (Nat.lt_of_lt_of_le (x.lt q) e) (Nat.lt_irrefl _)
theorem HOk.kept (x : HOk P w H h) (k : ∀ b u, h.get? b = some u → h'.get? b = some u) : HOk P w H h' := fun a o e =>
  (x a o e).stay (fun b u _ q => k b u q) (fun _ q => q) fun _ _ q => q
theorem HOk.laid (x : HOk P w H h) (k : ∀ b u, h.get? b = some u → h'.get? b = some u) (hp : h.objs.size ≤ a) (new : ObjOk P w (upd H a o) h' a o) : HOk P w (upd H a o) h' := fun b u e => by
  have hn := x.fresh hp
  by_cases hb : b = a
  · subst hb; rw [upd_same] at e; cases e; exact new
  · rw [upd_ne hb] at e
    exact (x b u e).stay (fun c v _ q => k c v q) (fun c q => by rw [upd_ne (ne_of_none q hn)]; exact q) fun c xs q => by rw [upd_ne (ne_of_none q hn)]; exact q
end

def Rd (H : Hp) (a : Addr) (u : HO) : Prop := H a = some u ∨ ∃ o, H a = some (.frz o u)
theorem Rd.ok {P : Program} {w : World} {H : Hp} {h : Heap} {a : Addr} {u : HO} (r : Rd H a u) (x : HOk P w H h) : ObjOk P w H h a u := by
  rcases r with r | ⟨o, r⟩
  · exact x a u r
  · obtain ⟨_, q⟩ := x a _ r
    exact q
def Mut : Option HO → Prop
  | some (.lst _) => True
  | some (.dK _) => True
  | some (.dT _) => True
  | some (.set _ _) => True
  | some (.ins _ _ _) => True
  | some (.ext _) => True
  | _ => False
section
variable {P : Program} {w : World} {H : Hp} {h h' : Heap} {x e : Addr} {o' : HO}
theorem HOk.write (ok : HOk P w H h) (mu : Mut (H x)) (he : e = x ∨ H e = some (.own x)) (k : ∀ b u, b ≠ e → h.get? b = some u → h'.get? b = some u) (heo : ∃ u, h'.get? e = some u)
    (new : ObjOk P w (upd H x o') h' x o') : HOk P w (upd H x o') h' := fun b u q => by
  have nown : ∀ c y, H c = some (.own y) → c ≠ x := fun c y r z => by subst z; rw [r] at mu; exact mu
  have ntup : ∀ c xs, H c = some (.tup xs) → c ≠ x := fun c xs r z => by subst z; rw [r] at mu; exact mu
  by_cases hb : b = x
  · subst hb; rw [upd_same] at q; cases q; exact new
  · rw [upd_ne hb] at q
    by_cases hbe : b = e
    · have q' : H b = some (.own x) := by
        rcases he with z | z
        · exact absurd (hbe.trans z) hb
        · rw [hbe]; exact z
      rw [q] at q'; cases q'
      obtain ⟨v, hv⟩ := heo
      exact ⟨v, by rw [hbe]; exact hv⟩
    · refine (ok b u q).stay (fun c v hc r => k c v ?_ r) (fun c r => by rw [upd_ne (nown c b r)]; exact r) fun c xs r => by rw [upd_ne (ntup c xs r)]; exact r
      rcases hc with rfl | hc
      · exact hbe
      · rintro rfl
        rcases he with z | z
        · exact nown c b hc z
        · rw [hc] at z; cases z; exact hb rfl
end

structure Un (fs ex : List Addr) (H H' : Hp) (h h' : Heap) : Prop where
  keep : ∀ b o, h.get? b = some o → H b = none → b ∉ fs → b ∉ ex → h'.get? b = some o
  slot : ∀ b o, h.get? b = some o → H b = none → b ∈ fs → b ∉ ex → ∃ sl, h'.get? b = some { o with slots := sl }
  free : ∀ b o, h.get? b = some o → H b = none → b ∉ ex → H' b = none
  there : ∀ b o, h.get? b = some o → b ∉ ex → ∃ o', h'.get? b = some o'
  tups : ∀ b xs, H b = some (.tup xs) → H' b = some (.tup xs)
  frzs : ∀ b o u, H b = some (.frz o u) → H' b = some (.frz o u)
  tbls : ∀ b ps, H b = some (.tbl ps) → ∃ more, H' b = some (.tbl (ps ++ more))
section
variable {fs fs' ex ex' : List Addr} {H H1 H2 : Hp} {h h1 h2 h' : Heap} {a x e : Addr} {o : HO}
theorem Un.any (u : Un fs ex H H1 h h1) {b : Addr} {ob : Obj} (q : h.get? b = some ob) (n : H b = none) (hx : b ∉ ex) : ∃ sl, h1.get? b = some { ob with slots := sl } := by
  by_cases hb : b ∈ fs
  · exact u.slot b ob q n hb hx
  · exact ⟨ob.slots, u.keep b ob q n hb hx⟩
theorem Un.kept (k : ∀ b u, h.get? b = some u → h'.get? b = some u) : Un fs ex H H h h' :=
  ⟨fun b ob q _ _ _ => k b ob q, fun b ob q _ _ _ => ⟨ob.slots, k b ob q⟩, fun _ _ _ n _ => n, fun b ob q _ => ⟨ob, k b ob q⟩, fun _ _ q => q, fun _ _ _ q => q, fun _ ps q => ⟨#[], by rw [q]; simp⟩⟩
theorem Un.refl : Un fs ex H H h h := Un.kept fun _ _ q => q
theorem Un.laid (k : ∀ b u, h.get? b = some u → h'.get? b = some u) (hp : h.objs.size ≤ a) (hn : H a = none) : Un fs ex H (upd H a o) h h' where
  keep := fun b u q _ _ _ => k b u q
  slot := fun b u q _ _ _ => ⟨u.slots, k b u q⟩
  free := fun b u q n _ => by rw [upd_ne (Nat.ne_of_lt (Nat.lt_of_lt_of_le (Heap.lt_size q) hp))]; exact n
  there := fun b u q _ => ⟨u, k b u q⟩
  tups := fun b xs q => by rw [upd_ne (ne_of_none q hn)]; exact q
  frzs := fun b u xs q => by rw [upd_ne (ne_of_none q hn)]; exact q
  tbls := fun b ps q => ⟨#[], by rw [upd_ne (ne_of_none q hn), q]; simp⟩
theorem Un.write (mu : Mut (H x)) (he : e = x ∨ H e = some (.own x)) (k : ∀ b u, b ≠ e → h.get? b = some u → h'.get? b = some u) (heo : ∃ u, h'.get? e = some u) : Un fs ex H (upd H x o) h h' := by
  have hx : ∀ b, H b = none → b ≠ x := fun b n z => by subst z; rw [n] at mu; exact mu
  have hb : ∀ b, H b = none → b ≠ e := fun b n z => by
    subst z
    rcases he with r | r
    · exact hx b n r
    · rw [n] at r; cases r
  have hm : ∀ b u, H b = some u → ¬ Mut (some u) → b ≠ x := fun b u q nm z => by subst z; rw [q] at mu; exact nm mu
  refine ⟨fun b u q n _ _ => k b u (hb b n) q, fun b u q n _ _ => ⟨u.slots, k b u (hb b n) q⟩, fun b u q n _ => by rw [upd_ne (hx b n)]; exact n, fun b u q _ => ?_,
    fun b xs q => by rw [upd_ne (hm b _ q fun z => z)]; exact q, fun b u xs q => by rw [upd_ne (hm b _ q fun z => z)]; exact q, fun b ps q => ⟨#[], by rw [upd_ne (hm b _ q fun z => z), q]; simp⟩⟩
  by_cases hbe : b = e
  · subst hbe; exact heo
  · exact ⟨u, k b u hbe q⟩
end

def trk (h : Heap) (H : Hp) : List Addr := (List.range h.objs.size).filter fun a => (H a).isSome
def hidT (h : Heap) (H : Hp) : Heap := PySem.W.hideAll h (trk h H)
theorem hidT_size (h : Heap) (H : Hp) : (hidT h H).objs.size = h.objs.size := PySem.W.hideAll_size _ _
theorem hidT_get {h : Heap} {H : Hp} {b : Addr} {o : Obj} (e : h.get? b = some o) (n : H b = none) : (hidT h H).get? b = some o :=
  PySem.W.hideAll_get _ e fun hm => by
    have q : (H b).isSome = true := (List.mem_filter.mp hm).2
    rw [n] at q; simp at q
theorem of_hidT {h : Heap} {H : Hp} {b : Addr} {o : Obj} (e : (hidT h H).get? b = some o) : h.get? b = some o ∧ H b = none := by
  have e' : h.get? b = some o := PySem.W.of_hideAll (trk h H) e
  refine ⟨e', ?_⟩
  cases q : H b with
  | none => rfl
  | some x =>
    have hm : b ∈ trk h H := List.mem_filter.mpr ⟨List.mem_range.mpr (Heap.lt_size e'), by simp [q]⟩
    have z : (hidT h H).get? b = none := PySem.W.hideAll_none (trk h H) hm
    rw [z] at e; cases e

end L2

namespace L2
open PySem PySem.Spec PyProof.Rows

structure Mod (K : PySem.W.Frag) (mg : Str → Option Value) (base : Heap) : Prop where
  kin : K.In base
  glob : base.Ns mainGlobals mg
  blt : ∃ mb, base.Ns builtinsNs mb ∧ ∀ x : Str, x ≠ "__name__" → mb x = bootBuiltins x
  nolimit : base.NoLimit

structure Cx where
  prog : Program
  w : World
  K : PySem.W.Frag
  mg : Str → Option Value
  base : Heap
  A : Around
  N : List Str
  s₀ : Shared
  H₀ : Hp
  env : Env
  outer : List Env
  stack : List Env
  ex : List Addr
  fn : Str → Bool
  calm : Bool
  pn : List (Addr × Obj)
  xe : Value → Shared → Prop
def frs (l : List Env) : List Addr := l.filterMap (·.frame)
abbrev Cx.fs (X : Cx) : List Addr := frs X.outer

def Vis (sc : Scope) (x : Str) : Prop := sc.names.lookup x = some .local ∨ sc.names.lookup x = some .cell ∨ sc.names.lookup x = some .free
def Loc (sc : Scope) (x : Str) : Prop := sc.names.lookup x = some .local ∨ sc.names.lookup x = some .cell
def Look (env : Env) (h : Heap) (m : Str → Option Value) (x : Str) (u : Value) : Prop :=
  (env.kindOf x = some .local ∧ m x = some u) ∨ ((env.kindOf x = some .cell ∨ env.kindOf x = some .free) ∧ ∃ c, env.cells.lookup x = some c ∧ h.IsCell c (some u))

structure Cx.Ok (X : Cx) : Prop where
  mod : Mod X.K X.mg X.base
  kind : X.env.scope.kind = .function
  glob : X.env.globals = mainGlobals
  blt : X.env.builtins = builtinsNs
  above : X.s₀.heap.objs.size ≤ X.env.locals
  inj : ∀ x y c, X.env.cells.lookup x = some c → X.env.cells.lookup y = some c → x = y
  has : ∀ x, (X.env.kindOf x = some .cell ∨ X.env.kindOf x = some .free) → ∃ c, X.env.cells.lookup x = some c
  cab : ∀ x c, X.fn x = true → X.env.cells.lookup x = some c → X.s₀.heap.objs.size ≤ c
  hd : X.calm = true → X.A.handled = none
  frames : X.A.frames = some X.stack
  stk : X.stack = X.outer ∨ (X.stack = X.env :: X.outer ∧ X.env.frame = some X.env.locals)
  exf : ∀ b ∈ X.ex, b ≠ X.env.locals ∧ ∀ x c, X.env.cells.lookup x = some c → c ≠ b
  bs : ∀ b o, X.base.get? b = some o → X.s₀.heap.get? b = some o ∧ X.H₀ b = none
  bsz : X.base.objs.size ≤ X.s₀.heap.objs.size
  noex : ∀ b o, X.base.get? b = some o → b ∉ X.ex
  exfs : ∀ b ∈ X.ex, b ∉ X.fs
  funs : X.s₀.heap.FunFrames X.base X.outer
  frf : ∀ b ∈ X.fs, X.H₀ b = none

structure Inv (X : Cx) (pins : List (Addr × Obj)) (σ : List (Option V)) (H : Hp) (s : Shared) : Prop where
  ok : X.Ok
  os : s.os = X.s₀.os
  bare : AllBare s.gens
  base : Un X.fs X.ex X.H₀ H X.s₀.heap s.heap
  loc : ∃ m, s.heap.Ns X.env.locals m ∧ ∀ (i : Nat) (x : Str) (v : V), X.N[i]? = some x → σ[i]? = some (some v) → Vis X.env.scope x → ∃ u, RelV v u ∧ Look X.env s.heap m x u
  cell : ∀ x c, X.env.cells.lookup x = some c → ∃ v, s.heap.IsCell c v
  free : H X.env.locals = none
  freeC : ∀ x c, X.env.cells.lookup x = some c → H c = none
  pin : ∀ p ∈ X.pn ++ pins, s.heap.get? p.1 = some p.2 ∧ H p.1 = none ∧ p.1 ≠ X.env.locals ∧ p.1 ∉ X.fs ∧ ∀ v, p.2.data ≠ .cell v
  hok : HOk X.prog X.w H s.heap
  len : σ.length = X.N.length

section
variable {X : Cx} {pins : List (Addr × Obj)} {σ : List (Option V)} {H H' : Hp} {s : Shared} {h' : Heap}

theorem Cx.Ok.nofr (ok : X.Ok) {b : Addr} {o : Obj} (e : X.base.get? b = some o) : b ∉ X.fs := fun hb => by
  have := (ok.funs.mem hb).1
  rw [e] at this; cases this
theorem Inv.bs (I : Inv X pins σ H s) : ∀ b o, X.base.get? b = some o → s.heap.get? b = some o ∧ H b = none := fun b o e =>
  ⟨I.base.keep b o (I.ok.bs b o e).1 (I.ok.bs b o e).2 (I.ok.nofr e) (I.ok.noex b o e), I.base.free b o (I.ok.bs b o e).1 (I.ok.bs b o e).2 (I.ok.noex b o e)⟩
theorem Inv.bk (I : Inv X pins σ H s) : ∀ b o, X.base.get? b = some o → s.heap.get? b = some o := fun b o e => (I.bs b o e).1
theorem Inv.mod (I : Inv X pins σ H s) : Mod X.K X.mg X.base := I.ok.mod
theorem Inv.kIn (I : Inv X pins σ H s) : X.K.In s.heap := I.ok.mod.kin.keeps I.bk
theorem Inv.lt (I : Inv X pins σ H s) : X.env.locals < s.heap.objs.size := let ⟨_, hn, _⟩ := I.loc; hn.lt
theorem Inv.sz (I : Inv X pins σ H s) : X.s₀.heap.objs.size ≤ s.heap.objs.size := Nat.le_trans I.ok.above (Nat.le_of_lt I.lt)
theorem Inv.nofs (I : Inv X pins σ H s) {a : Addr} (h : s.heap.objs.size ≤ a) : a ∉ X.fs := fun hb => by
  obtain ⟨_, o, ho, _⟩ := I.ok.funs.mem hb
  exact absurd (Nat.lt_of_lt_of_le (Heap.lt_size ho) (Nat.le_trans I.sz h)) (Nat.lt_irrefl _)
theorem Inv.cne (I : Inv X pins σ H s) : ∀ x c, X.env.cells.lookup x = some c → c ≠ X.env.locals := fun x c e z => by
  obtain ⟨v, o, ho, hd⟩ := I.cell x c e
  obtain ⟨m, ⟨o', es, ep, ho', hd', _⟩, _⟩ := I.loc
  rw [z, ho'] at ho; cases ho; rw [hd'] at hd; cases hd
theorem Inv.funs (I : Inv X pins σ H s) : s.heap.FunFrames X.base X.outer := by
  have all : ∀ (l : List Env), (∀ b ∈ frs l, b ∈ X.fs) → X.s₀.heap.FunFrames X.base l → s.heap.FunFrames X.base l := by
    intro l
    induction l with
    | nil => intro _ _; trivial
    | cons env r ih =>
      intro hs hl
      obtain ⟨hk, ⟨L, o, hf, hn, ho, hd⟩, hr⟩ := hl
      have hL : L ∈ X.fs := hs L (by unfold frs; rw [List.filterMap_cons, hf]; exact List.mem_cons_self)
      obtain ⟨sl, e⟩ := I.base.slot L o ho (I.ok.frf L hL) hL fun z => I.ok.exfs L z hL
      exact ⟨hk, ⟨L, _, hf, hn, e, hd⟩, ih (fun b hb => hs b (by unfold frs; rw [List.filterMap_cons, hf]; exact List.mem_cons_of_mem _ hb)) hr⟩
  exact all X.outer (fun _ hb => hb) I.ok.funs

theorem Inv.stack (I : Inv X pins σ H s) : s.heap.FunFrames X.base X.stack := by
  rcases I.ok.stk with e | ⟨e, hf⟩
  · rw [e]; exact I.funs
  · rw [e]
    obtain ⟨m, hn, _⟩ := I.loc
    refine .cons (by rw [I.ok.kind]; decide) hf hn ?_ I.funs
    exact Heap.get?_none_of_le (Nat.le_trans I.ok.bsz I.ok.above)
theorem Inv.stkSub (I : Inv X pins σ H s) : ∀ b ∈ frs X.stack, b ∈ X.env.locals :: X.fs := fun b hb => by
  rcases I.ok.stk with e | ⟨e, hf⟩
  · rw [e] at hb; exact List.mem_cons_of_mem _ hb
  · rw [e] at hb
    unfold frs at hb
    rw [List.filterMap_cons, hf] at hb
    exact hb
theorem Inv.stkFree (I : Inv X pins σ H s) : ∀ b ∈ frs X.stack, H b = none := fun b hb => by
  rcases List.mem_cons.mp (I.stkSub b hb) with e | hb
  · rw [e]; exact I.free
  · obtain ⟨_, o, ho, _⟩ := I.ok.funs.mem hb
    exact I.base.free b o ho (I.ok.frf b hb) fun z => I.ok.exfs b z hb

theorem Inv.step {g' : Array GenState} {t' : Nat} {d' : Drawn} {ch : List Addr} (I : Inv X pins σ H s)
    (hch : ∀ b ∈ ch, (b ∈ X.ex ∨ X.s₀.heap.objs.size ≤ b) ∧ b ≠ X.env.locals ∧ (∀ x c, X.env.cells.lookup x = some c → c ≠ b) ∧ ∀ p ∈ X.pn ++ pins, p.1 ≠ b)
    (keep : ∀ b o, b ≠ X.env.locals → b ∉ X.fs → b ∉ ch → s.heap.get? b = some o → H b = none → h'.get? b = some o)
    (slot : ∀ b o, b ≠ X.env.locals → b ∈ X.fs → b ∉ ch → s.heap.get? b = some o → H b = none → ∃ sl, h'.get? b = some { o with slots := sl }) (free : ∀ b o, b ∉ ch → s.heap.get? b = some o → H b = none → H' b = none)
    (there : ∀ b o, b ∉ ch → s.heap.get? b = some o → ∃ o', h'.get? b = some o')
    (tups : ∀ b xs, H b = some (.tup xs) → H' b = some (.tup xs)) (frzs : ∀ b o u, H b = some (.frz o u) → H' b = some (.frz o u)) (tbls : ∀ b ps, H b = some (.tbl ps) → ∃ more, H' b = some (.tbl (ps ++ more)))
    (ns : ∀ m, s.heap.Ns X.env.locals m → h'.Ns X.env.locals m) (hok : HOk X.prog X.w H' h') (hg : AllBare g') :
    Inv X pins σ H' { s with heap := h', gens := g', drawn := d', toks := t' } := by
  have neL : ∀ b o, X.s₀.heap.get? b = some o → b ≠ X.env.locals := fun b o e => Nat.ne_of_lt (Nat.lt_of_lt_of_le (Heap.lt_size e) I.ok.above)
  have neC : ∀ b o, X.s₀.heap.get? b = some o → b ∉ X.ex → b ∉ ch := fun b o e hx hb => by
    rcases (hch b hb).1 with z | z
    · exact hx z
    · exact absurd (Nat.lt_of_lt_of_le (Heap.lt_size e) z) (Nat.lt_irrefl _)
  have cellK : ∀ x c, X.env.cells.lookup x = some c → ∀ v, s.heap.IsCell c v → h'.IsCell c v := fun x c e v ⟨o, ho, hd⟩ => by
    have nch : c ∉ ch := fun z => (hch c z).2.2.1 x c e rfl
    by_cases hc : c ∈ X.fs
    · obtain ⟨sl, q⟩ := slot c o (I.cne x c e) hc nch ho (I.freeC x c e)
      exact ⟨_, q, hd⟩
    · exact ⟨o, keep c o (I.cne x c e) hc nch ho (I.freeC x c e), hd⟩
  refine ⟨I.ok, I.os, hg, ⟨fun b o e n hb hx => ?_, fun b o e n hb hx => ?_, fun b o e n hx => ?_, fun b o e hx => ?_, fun b xs e => tups b xs (I.base.tups b xs e), fun b o xs e => frzs b o xs (I.base.frzs b o xs e), fun b ps e => ?_⟩, ?_, fun x c e => ?_, ?_, fun x c e => ?_, fun p hp => ?_, hok, I.len⟩
  · exact keep b o (neL b o e) hb (neC b o e hx) (I.base.keep b o e n hb hx) (I.base.free b o e n hx)
  · obtain ⟨sl, e1⟩ := I.base.slot b o e n hb hx
    obtain ⟨sl', e2⟩ := slot b _ (neL b o e) hb (neC b o e hx) e1 (I.base.free b o e n hx)
    exact ⟨sl', e2⟩
  · obtain ⟨o', e1⟩ := I.base.there b o e hx
    exact free b o' (neC b o e hx) e1 (I.base.free b o e n hx)
  · obtain ⟨o', e1⟩ := I.base.there b o e hx
    exact there b o' (neC b o e hx) e1
  · obtain ⟨m1, e1⟩ := I.base.tbls b ps e
    obtain ⟨m2, e2⟩ := tbls b _ e1
    exact ⟨m1 ++ m2, by rw [e2, Array.append_assoc]⟩
  · obtain ⟨m, hn, hl⟩ := I.loc
    refine ⟨m, ns m hn, fun i x v e1 e2 e3 => ?_⟩
    obtain ⟨u, r, l⟩ := hl i x v e1 e2 e3
    refine ⟨u, r, ?_⟩
    rcases l with l | ⟨k, c, e, z⟩
    · exact .inl l
    · exact .inr ⟨k, c, e, cellK x c e _ z⟩
  · obtain ⟨v, z⟩ := I.cell x c e
    exact ⟨v, cellK x c e v z⟩
  · obtain ⟨m, ⟨o, _, _, ho, _⟩, _⟩ := I.loc
    exact free _ o (fun z => (hch _ z).2.1 rfl) ho I.free
  · obtain ⟨v, o, ho, hd⟩ := I.cell x c e
    exact free c o (fun z => (hch c z).2.2.1 x c e rfl) ho (I.freeC x c e)
  · obtain ⟨e, n, ne, nf, d⟩ := I.pin p hp
    have nch : p.1 ∉ ch := fun z => (hch p.1 z).2.2.2 p hp rfl
    exact ⟨keep p.1 p.2 ne nf nch e n, free p.1 p.2 nch e n, ne, nf, d⟩
theorem Inv.un {t' : Nat} (I : Inv X pins σ H s) (u : Un X.fs [] H H' s.heap h') (hok : HOk X.prog X.w H' h') : Inv X pins σ H' { s with heap := h', toks := t' } := by
  obtain ⟨m, ⟨o, es, ep, ho, r⟩, _⟩ := id I.loc
  obtain ⟨sl, hL⟩ := u.any ho I.free (by simp)
  exact I.step (g' := s.gens) (d' := s.drawn) (ch := []) (fun _ z => nomatch z) (fun b o _ hb _ e n => u.keep b o e n hb (by simp)) (fun b o _ hb _ e n => u.slot b o e n hb (by simp)) (fun b o _ e n => u.free b o e n (by simp)) (fun b o _ e => u.there b o e (by simp)) u.tups u.frzs u.tbls (fun m' hm => by
    obtain ⟨o', es', ep', ho', r'⟩ := hm
    rw [ho] at ho'; cases ho'
    exact ⟨_, es', ep', hL, r'⟩) hok I.bare
theorem Inv.call {g' : Array GenState} {t' : Nat} {d' : Drawn} {ch : List Addr} (I : Inv X pins σ H s) (u : Un (frs X.stack) ch H H' s.heap h') (hok : HOk X.prog X.w H' h') (hg : AllBare g')
    (hch : ∀ b ∈ ch, (b ∈ X.ex ∨ X.s₀.heap.objs.size ≤ b) ∧ b ≠ X.env.locals ∧ (∀ x c, X.env.cells.lookup x = some c → c ≠ b) ∧ ∀ p ∈ X.pn ++ pins, p.1 ≠ b) :
    Inv X pins σ H' { s with heap := h', gens := g', drawn := d', toks := t' } := by
  obtain ⟨m, ⟨o, es, ep, ho, r⟩, _⟩ := id I.loc
  obtain ⟨sl, hL⟩ := u.any ho I.free fun z => (hch _ z).2.1 rfl
  exact I.step (ch := ch) hch (fun b o hL hb hc e n => u.keep b o e n (fun z => (List.mem_cons.mp (I.stkSub b z)).elim hL hb) hc) (fun b o _ _ hc e n => u.any e n hc) (fun b o hc e n => u.free b o e n hc) (fun b o hc e => u.there b o e hc) u.tups u.frzs u.tbls (fun m' hm => by
    obtain ⟨o', es', ep', ho', r'⟩ := hm
    rw [ho] at ho'; cases ho'
    exact ⟨_, es', ep', hL, r'⟩) hok hg
theorem Inv.turned {t' : Nat} {it : Addr} (I : Inv X pins σ H s) (k : ∀ b o, b ≠ it → s.heap.get? b = some o → h'.get? b = some o) (hn : H it = none) (hL : it ≠ X.env.locals)
    (h1 : it ∈ X.ex ∨ X.s₀.heap.objs.size ≤ it) (h2 : ∀ x c, X.env.cells.lookup x = some c → c ≠ it) (h3 : ∀ p ∈ X.pn ++ pins, p.1 ≠ it) : Inv X pins σ H { s with heap := h', toks := t' } := by
  have nit : ∀ b u, H b = some u → b ≠ it := fun b u e z => by rw [z, hn] at e; cases e
  refine I.step (g' := s.gens) (d' := s.drawn) (ch := [it]) (fun b hb => ?_) (fun b o _ _ hc e _ => k b o (fun z => hc (by simp [z])) e) (fun b o _ _ hc e _ => ⟨o.slots, k b o (fun z => hc (by simp [z])) e⟩) (fun _ _ _ _ n => n)
    (fun b o hc e => ⟨o, k b o (fun z => hc (by simp [z])) e⟩) (fun _ _ e => e) (fun _ _ _ e => e) (fun b ps e => ⟨#[], by rw [e]; simp⟩) (fun m hm => ?_) (fun b u e => ?_) I.bare
  · have e : b = it := by simpa using hb
    subst e
    exact ⟨h1, hL, h2, h3⟩
  · obtain ⟨o, es, ep, ho, r⟩ := hm
    exact ⟨o, es, ep, k _ o (Ne.symm hL) ho, r⟩
  · refine (I.hok b u e).stay (fun c v hc q => k c v ?_ q) (fun _ q => q) fun _ _ q => q
    rcases hc with z | z
    · rw [z]; exact nit b u e
    · exact nit c _ z
theorem Inv.tok (I : Inv X pins σ H s) (t : Nat) : Inv X pins σ H { s with toks := t } := I.un (h' := s.heap) (t' := t) Un.refl I.hok
theorem Inv.kept {t' : Nat} (I : Inv X pins σ H s) (k : ∀ b u, s.heap.get? b = some u → h'.get? b = some u) : Inv X pins σ H { s with heap := h', toks := t' } := I.un (Un.kept k) (I.hok.kept k)
theorem Inv.laid {a : Addr} {o : HO} {t' : Nat} (I : Inv X pins σ H s) (k : ∀ b u, s.heap.get? b = some u → h'.get? b = some u) (hp : s.heap.objs.size ≤ a) (new : ObjOk X.prog X.w (upd H a o) h' a o) :
    Inv X pins σ (upd H a o) { s with heap := h', toks := t' } := I.un (Un.laid k hp (I.hok.fresh hp)) (I.hok.laid k hp new)
theorem Inv.write {x e : Addr} {o : HO} {t' : Nat} (I : Inv X pins σ H s) (mu : Mut (H x)) (he : e = x ∨ H e = some (.own x)) (k : ∀ b u, b ≠ e → s.heap.get? b = some u → h'.get? b = some u) (heo : ∃ u, h'.get? e = some u)
    (new : ObjOk X.prog X.w (upd H x o) h' x o) : Inv X pins σ (upd H x o) { s with heap := h', toks := t' } := I.un (Un.write mu he k heo) (I.hok.write mu he k heo new)
theorem Inv.weak {σ' : List (Option V)} (I : Inv X pins σ H s) (hl : σ'.length = σ.length) (w : ∀ (i : Nat) v, σ'[i]? = some (some v) → σ[i]? = some (some v)) : Inv X pins σ' H s :=
  ⟨I.ok, I.os, I.bare, I.base, let ⟨m, hn, hl'⟩ := I.loc; ⟨m, hn, fun i x v e1 e2 e3 => hl' i x v e1 (w i v e2) e3⟩, I.cell, I.free, I.freeC, I.pin, I.hok, hl.trans I.len⟩
theorem Inv.pins_of {pins' : List (Addr × Obj)} (I : Inv X pins σ H s) (h : ∀ p ∈ pins', s.heap.get? p.1 = some p.2 ∧ H p.1 = none ∧ p.1 ≠ X.env.locals ∧ p.1 ∉ X.fs ∧ ∀ v, p.2.data ≠ .cell v) : Inv X pins' σ H s :=
  ⟨I.ok, I.os, I.bare, I.base, I.loc, I.cell, I.free, I.freeC, fun p hp => (List.mem_append.mp hp).elim (fun z => I.pin p (List.mem_append_left _ z)) (h p), I.hok, I.len⟩

theorem nodup_ix {N : List Str} (hN : N.Nodup) {i j : Nat} {x : Str} (a : N[i]? = some x) (b : N[j]? = some x) : i = j := by
  obtain ⟨h1, e1⟩ := List.getElem?_eq_some_iff.mp a
  obtain ⟨h2, e2⟩ := List.getElem?_eq_some_iff.mp b
  exact (List.getElem_inj hN).mp (e1.trans e2.symm)

theorem store_ok2 {M : Model} {A : Around} {E : Value → Shared → Prop} {i : Nat} {x : Str} {v : V} {u : Value} {Q : Unit → Shared → Prop} (I : Inv X pins σ H s) (hN : X.N.Nodup) (hi : X.N[i]? = some x) (hx : Loc X.env.scope x) (r : RelV v u)
    (h : ∀ s', Inv X pins (σ.set i (some v)) H s' → (∃ a, Heap.SameBut a s.heap s'.heap ∧ (a = X.env.locals ∨ X.env.cells.lookup x = some a)) → Q () s') (hf : X.fn x = true ∨ X.env.scope.names.lookup x = some .local := by first | exact .inl rfl | exact .inr rfl | assumption) : wpAny M A (storeName X.env x u) Q E s := by
  obtain ⟨m, hn, hl⟩ := id I.loc
  have hcls : (X.env.scope.kind == .class || (X.env.scope.kind == .module && X.env.locals != X.env.globals)) = false := by rw [I.ok.kind]; rfl
  have hiσ : i < σ.length := by rw [I.len]; exact (List.getElem?_eq_some_iff.mp hi).1
  have cne := I.cne
  have tracked : ∀ {a : Addr} {h' : Heap}, (∃ o, s.heap.get? a = some o ∧ H a = none) → Heap.SameBut a s.heap h' → HOk X.prog X.w H h' := fun {a h'} ha hs b ob e => by
    obtain ⟨_, _, hfree⟩ := ha
    refine (I.hok b ob e).stay (fun c w' hc q => (hs.2 c ?_).trans q) (fun _ q => q) fun _ _ q => q
    rintro rfl
    rcases hc with rfl | hc
    · rw [hfree] at e; cases e
    · rw [hfree] at hc; cases hc
  rcases hx with hk | hk
  · refine wpAny_storeName_local hk hn (fun h' hn' hs => ?_) hcls
    obtain ⟨oL, _, _, hoL, _⟩ := id hn
    refine h _ ⟨I.ok, I.os, I.bare, ⟨fun b o e n hb hx => ?_, fun b o e n hb hx => ?_, I.base.free, fun b o e hx => ?_, I.base.tups, I.base.frzs, I.base.tbls⟩, ⟨_, hn', fun j y v' e1 e2 e3 => ?_⟩, fun y c e => ?_, I.free, I.freeC, fun p hp => ?_, tracked ⟨oL, hoL, I.free⟩ hs, by simpa using I.len⟩ ⟨_, hs, .inl rfl⟩
    · exact (hs.2 b (Nat.ne_of_lt (Nat.lt_of_lt_of_le (Heap.lt_size e) I.ok.above))).trans (I.base.keep b o e n hb hx)
    · obtain ⟨sl, e1⟩ := I.base.slot b o e n hb hx
      exact ⟨sl, (hs.2 b (Nat.ne_of_lt (Nat.lt_of_lt_of_le (Heap.lt_size e) I.ok.above))).trans e1⟩
    · obtain ⟨o', e1⟩ := I.base.there b o e hx
      exact ⟨o', (hs.2 b (Nat.ne_of_lt (Nat.lt_of_lt_of_le (Heap.lt_size e) I.ok.above))).trans e1⟩
    · by_cases hj : j = i
      · subst hj
        rw [hi] at e1; cases e1
        rw [List.getElem?_set_self hiσ] at e2
        cases e2
        exact ⟨u, r, .inl ⟨hk, by simp⟩⟩
      · rw [List.getElem?_set_ne (Ne.symm hj)] at e2
        obtain ⟨u', r', q⟩ := hl j y v' e1 e2 e3
        refine ⟨u', r', ?_⟩
        rcases q with ⟨k, e⟩ | ⟨k, c, e, z⟩
        · refine .inl ⟨k, ?_⟩
          have : y ≠ x := fun e => hj (nodup_ix hN e1 (e ▸ hi))
          simp [this, e]
        · exact .inr ⟨k, c, e, z.sameBut hs (cne y c e)⟩
    · obtain ⟨w', z⟩ := I.cell y c e
      exact ⟨w', z.sameBut hs (cne y c e)⟩
    · obtain ⟨e, n, ne, nf, d⟩ := I.pin p hp
      exact ⟨(hs.2 p.1 ne).trans e, n, ne, nf, d⟩
  · have hfn : X.fn x = true := by
      rcases hf with z | z
      · exact z
      · rw [z] at hk; cases hk
    obtain ⟨c, hc⟩ := I.ok.has x (.inl hk)
    obtain ⟨w', z⟩ := I.cell x c hc
    refine wpAny_storeName_cell I.ok.kind hk hc z (fun h' hc' hs => ?_)
    obtain ⟨oc, hoc, hocd⟩ := id z
    refine h { s with heap := h' } ⟨I.ok, I.os, I.bare, ⟨fun b o e n hb hx => ?_, fun b o e n hb hx => ?_, I.base.free, fun b o e hx => ?_, I.base.tups, I.base.frzs, I.base.tbls⟩, ⟨m, hn.sameBut hs (Ne.symm (cne x c hc)), fun j y v' e1 e2 e3 => ?_⟩, fun y c' e => ?_, I.free, I.freeC, fun p hp => ?_, tracked ⟨oc, hoc, I.freeC x c hc⟩ hs, by simpa using I.len⟩ ⟨c, hs, .inr hc⟩
    · exact (hs.2 b (Nat.ne_of_lt (Nat.lt_of_lt_of_le (Heap.lt_size e) (I.ok.cab x c hfn hc)))).trans (I.base.keep b o e n hb hx)
    · obtain ⟨sl, e1⟩ := I.base.slot b o e n hb hx
      exact ⟨sl, (hs.2 b (Nat.ne_of_lt (Nat.lt_of_lt_of_le (Heap.lt_size e) (I.ok.cab x c hfn hc)))).trans e1⟩
    · obtain ⟨o', e1⟩ := I.base.there b o e hx
      exact ⟨o', (hs.2 b (Nat.ne_of_lt (Nat.lt_of_lt_of_le (Heap.lt_size e) (I.ok.cab x c hfn hc)))).trans e1⟩
    · by_cases hj : j = i
      · subst hj
        rw [hi] at e1; cases e1
        rw [List.getElem?_set_self hiσ] at e2
        cases e2
        exact ⟨u, r, .inr ⟨.inl hk, c, hc, hc'⟩⟩
      · rw [List.getElem?_set_ne (Ne.symm hj)] at e2
        obtain ⟨u', r', q⟩ := hl j y v' e1 e2 e3
        refine ⟨u', r', ?_⟩
        rcases q with q | ⟨k, c', e, z'⟩
        · exact .inl q
        · refine .inr ⟨k, c', e, z'.sameBut hs ?_⟩
          rintro rfl
          exact hj (nodup_ix hN e1 (I.ok.inj _ _ _ e hc ▸ hi))
    · by_cases hcc : c' = c
      · subst hcc; exact ⟨_, hc'⟩
      · obtain ⟨w2, z2⟩ := I.cell y c' e
        exact ⟨w2, z2.sameBut hs hcc⟩
    · obtain ⟨e, n, ne, nf, d⟩ := I.pin p hp
      refine ⟨(hs.2 p.1 ?_).trans e, n, ne, nf, d⟩
      intro q
      rw [q, hoc] at e
      have q' : oc = p.2 := Option.some.inj e
      exact d w' (by rw [← q']; exact hocd)
theorem store_ok {M : Model} {A : Around} {E : Value → Shared → Prop} {i : Nat} {x : Str} {v : V} {u : Value} {Q : Unit → Shared → Prop} (I : Inv X pins σ H s) (hN : X.N.Nodup) (hi : X.N[i]? = some x) (hx : Loc X.env.scope x) (r : RelV v u)
    (h : ∀ s', Inv X pins (σ.set i (some v)) H s' → Q () s') (hf : X.fn x = true ∨ X.env.scope.names.lookup x = some .local := by first | exact .inl rfl | exact .inr rfl | assumption) : wpAny M A (storeName X.env x u) Q E s :=
  store_ok2 I hN hi hx r (fun s' I' _ => h s' I') hf
theorem Inv.call' {s' : Shared} {ch : List Addr} (I : Inv X pins σ H s) (ho : s'.os = s.os) (u : Un (frs X.stack) ch H H' s.heap s'.heap) (hok : HOk X.prog X.w H' s'.heap) (hg : AllBare s'.gens)
    (hch : ∀ b ∈ ch, (b ∈ X.ex ∨ X.s₀.heap.objs.size ≤ b) ∧ b ≠ X.env.locals ∧ (∀ x c, X.env.cells.lookup x = some c → c ≠ b) ∧ ∀ p ∈ X.pn ++ pins, p.1 ≠ b) : Inv X pins σ H' s' := by
  obtain ⟨h', g', d', t', o'⟩ := s'
  have e : o' = s.os := ho
  subst e
  exact I.call (g' := g') (t' := t') (d' := d') u hok hg hch
end

abbrev XK := Value → Option Addr → Hp → Prop
abbrev St := List (Option V)
abbrev VK := V → Hp → Prop
abbrev TE := St → Hp → VK → Prop
abbrev TT := St → Hp → (Bool → Hp → Prop) → Prop
abbrev TA := St → Hp → (List V → Hp → Prop) → Prop
structure Ends where
  nx : St → Hp → Prop
  rt : VK
  bk : St → Hp → Prop := fun _ _ => False
  ct : St → Hp → Prop := fun _ _ => False
abbrev TS := Ends → St → Hp → Prop

def EP (X : Cx) (pins : List (Addr × Obj)) (σ : St) (Q : VK) (u : Value) (s' : Shared) : Prop := ∃ v H', Inv X pins σ H' s' ∧ RelV v u ∧ Q v H'
def TP (X : Cx) (pins : List (Addr × Obj)) (σ : St) (Q : Bool → Hp → Prop) (b : Bool) (s' : Shared) : Prop := ∃ H', Inv X pins σ H' s' ∧ Q b H'
def AP (X : Cx) (pins : List (Addr × Obj)) (σ : St) (Q : List V → Hp → Prop) (us : List Value) (s' : Shared) : Prop := ∃ vs H', Inv X pins σ H' s' ∧ Vals vs us ∧ Q vs H'
def SP (X : Cx) (pins : List (Addr × Obj)) (D : Ends) (f : Flow) (s' : Shared) : Prop :=
  match f with
  | .next => ∃ σ' H', Inv X pins σ' H' s' ∧ D.nx σ' H'
  | .brk => ∃ σ' H', Inv X pins σ' H' s' ∧ D.bk σ' H'
  | .cont => ∃ σ' H', Inv X pins σ' H' s' ∧ D.ct σ' H'
  | .ret u => ∃ v σ' H', Inv X pins σ' H' s' ∧ RelV v u ∧ D.rt v H'

def PE (X : Cx) (e : Expr) (t : TE) : Prop :=
  ∀ (pins : List (Addr × Obj)) (s : Shared) (σ : St) (H : Hp) (Q : VK), Inv X pins σ H s → t σ H Q → wpAny (model X.prog X.w) X.A (eval e X.env) (EP X pins σ Q) X.xe s
def PT (X : Cx) (e : Expr) (t : TT) : Prop :=
  ∀ (pins : List (Addr × Obj)) (s : Shared) (σ : St) (H : Hp) (Q : Bool → Hp → Prop), Inv X pins σ H s → t σ H Q → wpAny (model X.prog X.w) X.A (isTrue e X.env (eval e X.env)) (TP X pins σ Q) X.xe s
def PW (X : Cx) (e : Expr) (t : TT) : Prop :=
  ∀ (whole : Sem Value) (pins : List (Addr × Obj)) (s : Shared) (σ : St) (H : Hp) (Q : Bool → Hp → Prop), Inv X pins σ H s → t σ H Q → wpAny (model X.prog X.w) X.A (isTrue e X.env whole) (TP X pins σ Q) X.xe s
theorem PW.pt {X : Cx} {e : Expr} {t : TT} (h : PW X e t) : PT X e t := h _
def PA (X : Cx) (es : List Expr) (t : TA) : Prop :=
  ∀ (pos : Pos) (pins : List (Addr × Obj)) (s : Shared) (σ : St) (H : Hp) (Q : List V → Hp → Prop), Inv X pins σ H s → t σ H Q → wpAny (model X.prog X.w) X.A (spliced (backTo pos (starEach es X.env))) (AP X pins σ Q) X.xe s
def PS (X : Cx) (st : Stmt) (t : TS) : Prop :=
  ∀ (pins : List (Addr × Obj)) (s : Shared) (σ : St) (H : Hp) (D : Ends), Inv X pins σ H s → t D σ H → wpAny (model X.prog X.w) X.A (exec st X.env) (SP X pins D) X.xe s
def PSs (X : Cx) (st : List Stmt) (t : TS) : Prop :=
  ∀ (pins : List (Addr × Obj)) (s : Shared) (σ : St) (H : Hp) (D : Ends), Inv X pins σ H s → t D σ H → wpAny (model X.prog X.w) X.A (execs st X.env) (SP X pins D) X.xe s
theorem thn {α : Type} {t : Sem α} {Q Q' : α → Shared → Prop} {M : Model} {A : Around} {E : Value → Shared → Prop} {s : Shared} (h : wpAny M A t Q E s) (hQ : ∀ a s, Q a s → Q' a s) : wpAny M A t Q' E s := wpAny_mono h hQ fun _ _ x => x
end L2

namespace L2
open PySem PySem.Spec PyProof.Rows
section
variable {X : Cx}

def tVar (i : Nat) : TE := fun σ H Q => ∃ v, σ[i]? = some (some v) ∧ Q v H
def tC (v : V) : TE := fun _ H Q => Q v H
theorem pe_var {i : Nat} {x : Str} {pos : Pos} (hN : X.N[i]? = some x) (hv : Vis X.env.scope x) (hd : (x == ("__debug__" : Str)) = false := by decide) (hcd : (x == ("__classdict__" : Str)) = false := by decide) : PE X (.Name x pos) (tVar i) := by
  intro pins s σ H Q I h
  obtain ⟨v, e, h⟩ := h
  obtain ⟨m, hn, hl⟩ := I.loc
  obtain ⟨u, r, l⟩ := hl i x v hN e hv
  have fin : EP X pins σ Q u s := ⟨v, H, I, r, h⟩
  rcases l with ⟨hk, hm⟩ | ⟨hk, c, hc, hcell⟩
  · exact wpAny_Name (wpAny_loadName_local I.ok.kind hk hn hm fin) hd
  · rcases hk with hk | hk
    · exact wpAny_Name (wpAny_loadName_cell I.ok.kind hk hc hcell fin) hd
    · exact wpAny_Name (wpAny_loadName_free I.ok.kind hk hc hcell fin hcd) hd
theorem pe_int {i j pos} : PE X (.Constant (.int i) j pos) (tC (.int i)) := fun _ _ _ H _ I h => wpAny_Constant_int ⟨.int i, H, I.tok _, ⟨_, rfl⟩, h⟩
theorem pe_bl {b j pos} : PE X (.Constant (.bool b) j pos) (tC (.bl b)) := fun _ _ _ H _ I h => Constant_bool ⟨.bl b, H, I, rfl, h⟩
theorem pe_str {x j pos} : PE X (.Constant (.str x) j pos) (tC (.str x)) := fun _ _ _ H _ I h => Calls.Constant_str ⟨.str x, H, I.tok _, ⟨_, rfl⟩, h⟩

def Gl (X : Cx) (x : Str) : Prop := X.env.kindOf x = some .globalImplicit
theorem ld_glob {E : Value → Shared → Prop} {pins : List (Addr × Obj)} {s : Shared} {σ : St} {H : Hp} {x : Str} {u : Value} {pos : Pos} {Q : Value → Shared → Prop} (I : Inv X pins σ H s) (hg : Gl X x) (hm : X.mg x = some u) (h : Q u s)
    (hd : (x == ("__debug__" : Str)) = false := by decide) : wpAny (model X.prog X.w) X.A (eval (.Name x pos) X.env) Q E s :=
  Calls.Name_function_global I.ok.kind hg (Calls.loadGlobal_global (by rw [I.ok.glob]; exact I.mod.glob.keeps I.bk) hm h) hd
theorem ld_blt {E : Value → Shared → Prop} {pins : List (Addr × Obj)} {s : Shared} {σ : St} {H : Hp} {x : Str} {u : Value} {pos : Pos} {Q : Value → Shared → Prop} (I : Inv X pins σ H s) (hg : Gl X x) (hm : X.mg x = none) (hv : bootBuiltins x = some u) (h : Q u s)
    (hn : x ≠ "__name__" := by decide) (hd : (x == ("__debug__" : Str)) = false := by decide) : wpAny (model X.prog X.w) X.A (eval (.Name x pos) X.env) Q E s := by
  obtain ⟨mb, h1, h2⟩ := I.mod.blt
  exact Calls.Name_function_global I.ok.kind hg (Calls.loadGlobal_builtin (by rw [I.ok.glob]; exact I.mod.glob.keeps I.bk) hm (by rw [I.ok.blt]; exact h1.keeps I.bk) ((h2 x hn).trans hv) h) hd
theorem pe_glob {x : Str} {v : V} {u : Value} {pos : Pos} (hg : Gl X x) (hm : X.mg x = some u) (r : RelV v u) (hd : (x == ("__debug__" : Str)) = false := by decide) : PE X (.Name x pos) (tC v) :=
  fun _ _ _ H _ I h => ld_glob I hg hm ⟨v, H, I, r, h⟩ hd
theorem pe_bltn {x : Str} {v : V} {u : Value} {pos : Pos} (hg : Gl X x) (hm : X.mg x = none) (hv : bootBuiltins x = some u) (r : RelV v u) (hn : x ≠ "__name__" := by decide) (hd : (x == ("__debug__" : Str)) = false := by decide) : PE X (.Name x pos) (tC v) :=
  fun _ _ _ H _ I h => ld_blt I hg hm hv ⟨v, H, I, r, h⟩ hn hd

variable {a b : Expr} {ta tb : TE} {pos : Pos}
def tB (t : TE) : TT := fun σ H Q => t σ H fun x H1 => ∃ c, x = .bl c ∧ Q c H1
theorem pt_val {e : Expr} {t : TE} (h : PE X e t) (he : ∀ whole, isTrue e X.env whole = (do let v ← whole; standAt e.pos; holding [v] (truthy v)) := by intro _; rfl) : PT X e (tB t) := by
  intro pins s σ H Q I hw
  refine isTrue_plain (thn (h pins s σ H _ I hw) fun v s1 ⟨x, H1, I1, r1, q1⟩ => ?_) (he _)
  obtain ⟨d, rfl, q⟩ := q1
  cases r1
  exact wpAny_truthy_bool ⟨H1, I1, q⟩

variable {tA tB' : TT} {rest : List Expr}
def tAnd (t u : TT) : TT := fun σ H Q => t σ H fun c H1 => if c = true then u σ H1 Q else Q false H1
def tOr (t u : TT) : TT := fun σ H Q => t σ H fun c H1 => if c = true then Q true H1 else u σ H1 Q
def tNot (t : TT) : TT := fun σ H Q => t σ H fun c H1 => Q (!c) H1
theorem pw_and1 (ha : PT X a tA) : PW X (.BoolOp .And [a] pos) tA := by
  intro wh pins s σ H Q I h
  refine isTrue_and (thn (ha pins s σ H Q I h) fun c s1 e => ?_)
  cases c with
  | true => exact isTrue_and_nil e
  | false => exact e
theorem pw_or1 (ha : PT X a tA) : PW X (.BoolOp .Or [a] pos) tA := by
  intro wh pins s σ H Q I h
  refine isTrue_or (thn (ha pins s σ H Q I h) fun c s1 e => ?_)
  cases c with
  | false => exact isTrue_or_nil e
  | true => exact e
theorem pw_and (ha : PT X a tA) (hb : PW X (.BoolOp .And (b :: rest) pos) tB') : PW X (.BoolOp .And (a :: b :: rest) pos) (tAnd tA tB') := by
  intro wh pins s σ H Q I h
  refine isTrue_and (thn (ha pins s σ H _ I h) fun c s1 ⟨H1, I1, q1⟩ => ?_)
  cases c with
  | true => exact hb wh pins s1 σ H1 Q I1 q1
  | false => exact ⟨H1, I1, q1⟩
theorem pw_or (ha : PT X a tA) (hb : PW X (.BoolOp .Or (b :: rest) pos) tB') : PW X (.BoolOp .Or (a :: b :: rest) pos) (tOr tA tB') := by
  intro wh pins s σ H Q I h
  refine isTrue_or (thn (ha pins s σ H _ I h) fun c s1 ⟨H1, I1, q1⟩ => ?_)
  cases c with
  | true => exact ⟨H1, I1, q1⟩
  | false => exact hb wh pins s1 σ H1 Q I1 q1
theorem pt_not (ha : PT X a tA) : PT X (.UnaryOp .Not a pos) (tNot tA) := by
  intro pins s σ H Q I h
  exact isTrue_not (ha pins s σ H (fun c H1 => Q (!c) H1) I h)
def tAndV (ta tb : TE) : TE := fun σ H Q => ta σ H fun x H1 => ∃ c, x = .bl c ∧ if c = true then tb σ H1 Q else Q (.bl false) H1
def tNotV (ta : TE) : TE := fun σ H Q => ta σ H fun x H1 => ∃ c, x = .bl c ∧ Q (.bl (!c)) H1
theorem pe_one {op} {t : TE} (h : PE X a t) : PE X (.BoolOp op [a] pos) t := fun pins s σ H Q I hw => BoolOp_one (h pins s σ H Q I hw)
theorem pe_and (ha : PE X a ta) (hb : PE X (.BoolOp .And (b :: rest) pos) tb) : PE X (.BoolOp .And (a :: b :: rest) pos) (tAndV ta tb) := by
  intro pins s σ H Q I h
  refine BoolOp_and (thn (ha pins s σ H _ I h) fun v s1 ⟨x, H1, I1, r1, q1⟩ => ?_)
  obtain ⟨c, rfl, q1⟩ := q1
  cases r1
  refine wpAny_truthy_bool ?_
  cases c with
  | true => exact hb pins s1 σ H1 Q I1 q1
  | false => exact ⟨.bl false, H1, I1, rfl, q1⟩
theorem pe_not (ha : PE X a ta) : PE X (.UnaryOp .Not a pos) (tNotV ta) := by
  intro pins s σ H Q I h
  refine UnaryOp_ (thn (ha pins s σ H _ I h) fun v s1 ⟨x, H1, I1, r1, q1⟩ => ?_)
  obtain ⟨c, rfl, q1⟩ := q1
  cases r1
  exact not_of (wpAny_truthy_bool ⟨.bl (!c), H1, I1, rfl, q1⟩)
end
end L2

namespace L2
open PySem PySem.Spec PyProof.Rows

def SqL (K : PySem.W.Frag) (H : Hp) (a : Addr) (xs : List V) : Prop :=
  Rd H a (.lst xs) ∨
    ∃ (o : Obj) (its : Array Value) (n : Nat), K.lookup a = some o ∧ o.cls = .type "list" ∧ o.dict = none ∧ o.data = .seq its n ∧ its.size ≤ sizeLine ∧ Vals xs its.toList
def SqT (K : PySem.W.Frag) (H : Hp) (a : Addr) (xs : List V) : Prop :=
  Rd H a (.tup xs) ∨
    ∃ (o : Obj) (its : Array Value) (n : Nat), K.lookup a = some o ∧ o.cls = .type "tuple" ∧ o.data = .seq its n ∧ its.size ≤ sizeLine ∧ Vals xs its.toList
def absV : Value → Option V
  | .none => some .non
  | .bool b => some (.bl b)
  | .int i _ => some (.int i)
  | .str x _ => some (.str x)
  | .bytes b _ => some (.byt b)
  | .float b _ => some (.flt b)
  | .ref a => some (.ref a)
  | .type n => some (.ty n)
  | _ => none
theorem RelV.abs {x : V} {u : Value} (r : RelV x u) : absV u = some x := by
  cases x with
  | non => cases r; rfl
  | bl _ => cases r; rfl
  | int _ => obtain ⟨t, rfl⟩ := r; rfl
  | str _ => obtain ⟨t, rfl⟩ := r; rfl
  | byt _ => obtain ⟨t, rfl⟩ := r; rfl
  | flt _ => obtain ⟨t, rfl⟩ := r; rfl
  | ref _ => cases r; rfl
  | ty _ => cases r; rfl
theorem RelV.inj {x y : V} {u : Value} (r : RelV x u) (q : RelV y u) : x = y := Option.some.inj (r.abs.symm.trans q.abs)
theorem Vals.inj : ∀ {xs ys : List V} {us : List Value}, Vals xs us → Vals ys us → xs = ys
  | _, _, _, .nil, .nil => rfl
  | _, _, _, .cons r t, .cons r' t' => by rw [r.inj r', Vals.inj t t']
section
variable {X : Cx} {pins : List (Addr × Obj)} {σ : St} {H : Hp} {s : Shared} {a : Addr} {xs ys : List V}
theorem SqL.of {K : PySem.W.Frag} (h : H a = some (.lst xs)) : SqL K H a xs := .inl (.inl h)
theorem SqT.of {K : PySem.W.Frag} (h : H a = some (.tup xs)) : SqT K H a xs := .inl (.inl h)
theorem Inv.list (I : Inv X pins σ H s) (h : SqL X.K H a xs) : ∃ its : List Value, Vals xs its ∧ PlainL s.heap a its.toArray ∧ xs.length ≤ sizeLine := by
  rcases h with h | ⟨o, its, n, hk, hc, hd, hs, hz, r⟩
  · obtain ⟨z, its, n, r, e⟩ := h.ok I.hok
    exact ⟨its, r, ⟨_, n, e, rfl, rfl, rfl⟩, z⟩
  · refine ⟨its.toList, r, ⟨o, n, I.kIn a o hk, hc, hd, by simpa using hs⟩, ?_⟩
    have e := r.length
    simp only [Array.length_toList] at e
    omega
theorem Inv.tuple (I : Inv X pins σ H s) (h : SqT X.K H a xs) : ∃ its : List Value, Vals xs its ∧ IsTup s.heap a its.toArray ∧ xs.length ≤ sizeLine := by
  rcases h with h | ⟨o, its, n, hk, hc, hs, hz, r⟩
  · obtain ⟨z, its, r, p⟩ := h.ok I.hok
    exact ⟨its, r, p, z⟩
  · refine ⟨its.toList, r, ⟨o, I.kIn a o hk, hc, n, by simpa using hs⟩, ?_⟩
    have e := r.length
    simp only [Array.length_toList] at e
    omega
theorem Inv.list_inj (I : Inv X pins σ H s) (h : SqL X.K H a xs) (h' : SqL X.K H a ys) : xs = ys := by
  obtain ⟨its, r, ⟨o, n, e, _, _, d⟩, _⟩ := I.list h
  obtain ⟨its', r', ⟨o', n', e', _, _, d'⟩, _⟩ := I.list h'
  rw [e] at e'; cases e'
  rw [d] at d'
  injection d' with d1 _
  have : its = its' := by simpa using congrArg Array.toList d1
  subst this
  exact r.inj r'
theorem Inv.tuple_inj (I : Inv X pins σ H s) (h : SqT X.K H a xs) (h' : SqT X.K H a ys) : xs = ys := by
  obtain ⟨its, r, ⟨o, e, _, n, d⟩, _⟩ := I.tuple h
  obtain ⟨its', r', ⟨o', e', _, n', d'⟩, _⟩ := I.tuple h'
  rw [e] at e'; cases e'
  rw [d] at d'
  injection d' with d1 _
  have : its = its' := by simpa using congrArg Array.toList d1
  subst this
  exact r.inj r'
end

abbrev Cx.wish (X : Cx) (E : Value → Shared → Prop) : Cx := { X with xe := E }
abbrev Cx.nox (X : Cx) : Cx := X.wish fun _ _ => False
theorem Cx.Ok.wish {X : Cx} (ok : X.Ok) (E : Value → Shared → Prop) : (X.wish E).Ok :=
  ⟨ok.mod, ok.kind, ok.glob, ok.blt, ok.above, ok.inj, ok.has, ok.cab, ok.hd, ok.frames, ok.stk, ok.exf, ok.bs, ok.bsz, ok.noex, ok.exfs, ok.funs, ok.frf⟩
theorem Cx.Ok.unwish {X : Cx} {E : Value → Shared → Prop} (ok : (X.wish E).Ok) : X.Ok :=
  ⟨ok.mod, ok.kind, ok.glob, ok.blt, ok.above, ok.inj, ok.has, ok.cab, ok.hd, ok.frames, ok.stk, ok.exf, ok.bs, ok.bsz, ok.noex, ok.exfs, ok.funs, ok.frf⟩
section
variable {X : Cx} {pins : List (Addr × Obj)} {σ : St} {H : Hp} {s : Shared} {E : Value → Shared → Prop}
theorem Inv.wish (I : Inv X pins σ H s) (E : Value → Shared → Prop) : Inv (X.wish E) pins σ H s := ⟨I.ok.wish E, I.os, I.bare, I.base, I.loc, I.cell, I.free, I.freeC, I.pin, I.hok, I.len⟩
theorem Inv.unwish (I : Inv (X.wish E) pins σ H s) : Inv X pins σ H s := ⟨I.ok.unwish, I.os, I.bare, I.base, I.loc, I.cell, I.free, I.freeC, I.pin, I.hok, I.len⟩
theorem SP.unwish {D : Ends} {f : Flow} {s' : Shared} (h : SP (X.wish E) pins D f s') : SP X pins D f s' := by
  cases f with
  | next => obtain ⟨σ', H', I, q⟩ := h; exact ⟨σ', H', I.unwish, q⟩
  | brk => obtain ⟨σ', H', I, q⟩ := h; exact ⟨σ', H', I.unwish, q⟩
  | cont => obtain ⟨σ', H', I, q⟩ := h; exact ⟨σ', H', I.unwish, q⟩
  | ret u => obtain ⟨v, σ', H', I, r, q⟩ := h; exact ⟨v, σ', H', I.unwish, r, q⟩
theorem PSs.nox {st : List Stmt} {t : TS} (h : PSs X.nox st t) : PSs X st t := fun pins s σ H D I hw =>
  wpAny_mono (h pins s σ H D (I.wish _) hw) (fun _ _ q => q.unwish) fun _ _ z => False.elim z
end

section
variable {X : Cx} {st : Stmt} {rest : List Stmt} {t u : TS} {e : Expr} {te : TE} {pos : Pos}
def tNext : TS := fun D σ H => D.nx σ H
def tSeq (t u : TS) : TS := fun D σ H => t { D with nx := u D } σ H
theorem pss_nil : PSs X [] tNext := fun _ _ σ H _ I h => wpAny_execs_nil ⟨σ, H, I, h⟩
theorem pss_cons (h1 : PS X st t) (h2 : PSs X rest u) : PSs X (st :: rest) (tSeq t u) := by
  intro pins s σ H D I h
  refine wpAny_execs_cons (thn (h1 pins s σ H { D with nx := u D } I h) fun f s1 q => ?_)
  cases f with
  | next =>
    obtain ⟨σ', H', I', q⟩ := q
    exact h2 pins s1 σ' H' D I' q
  | ret v => exact q
  | brk => exact q
  | cont => exact q
theorem pss_one (h1 : PS X st t) : PSs X [st] t := by
  intro pins s σ H D I h
  refine wpAny_execs_cons (thn (h1 pins s σ H D I h) fun f s1 q => ?_)
  cases f with
  | next => exact wpAny_execs_nil q
  | ret v => exact q
  | brk => exact q
  | cont => exact q
theorem Inv.quiet {pins : List (Addr × Obj)} {σ : St} {H : Hp} {s : Shared} (I : Inv X pins σ H s) : interactive X.env = false := by simp [interactive, I.ok.kind]
def tDrop (te : TE) : TS := fun D σ H => te σ H fun _ H1 => D.nx σ H1
theorem ps_expr (he : PE X e te) (hs : swapsWith e none pos.line X.env = pure false := by rfl) : PS X (.Expr e pos) (tDrop te) := by
  intro pins s σ H D I h
  exact wpAny_Expr_any (thn (he pins s σ H _ I h) fun v s1 ⟨x, H1, I1, r1, q1⟩ => ⟨σ, H1, I1, q1⟩) I.quiet hs
def tRet (te : TE) : TS := fun D σ H => te σ H D.rt
theorem ps_ret (he : PE X e te) : PS X (.Return (some e) pos) (tRet te) := by
  intro pins s σ H D I h
  exact wpAny_Return_some (thn (he pins s σ H _ I h) fun v s1 ⟨x, H1, I1, r1, q1⟩ => ⟨x, σ, H1, I1, r1, q1⟩)
def tIfS (c : TT) (t u : TS) : TS := fun D σ H => c σ H fun b H1 => if b = true then t D σ H1 else u D σ H1
theorem ps_if {c : Expr} {a b : List Stmt} {tc : TT} (hc : PT X c tc) (ha : PSs X a t) (hb : PSs X b u) : PS X (.If c a b pos) (tIfS tc t u) := by
  intro pins s σ H D I h
  refine wpAny_If (thn (hc pins s σ H _ I h) fun d s1 ⟨H1, I1, q1⟩ => ?_)
  cases d with
  | true => exact ha pins s1 σ H1 D I1 q1
  | false => exact hb pins s1 σ H1 D I1 q1
def tNever : TS := fun _ _ _ => False
theorem pss_never {sts : List Stmt} : PSs X sts tNever := fun _ _ _ _ _ _ h => h.elim
end

abbrev TG := V → St → Hp → (St → Hp → Prop) → Prop
abbrev TGs := List V → St → Hp → (St → Hp → Prop) → Prop
def PG (X : Cx) (target : Expr) (t : TG) : Prop :=
  ∀ (pins : List (Addr × Obj)) (s : Shared) (σ : St) (H : Hp) (v : V) (u : Value) (Q : St → Hp → Prop), Inv X pins σ H s → RelV v u → t v σ H Q →
    wpAny (model X.prog X.w) X.A (assign target X.env u) (fun _ s' => ∃ σ' H', Inv X pins σ' H' s' ∧ Q σ' H') X.xe s
def PGs (X : Cx) (ts : List Expr) (t : TGs) : Prop :=
  ∀ (pins : List (Addr × Obj)) (s : Shared) (σ : St) (H : Hp) (vs : List V) (us : List Value) (Q : St → Hp → Prop), Inv X pins σ H s → Vals vs us → t vs σ H Q →
    wpAny (model X.prog X.w) X.A (assignInOrder ((assignEach ts X.env).map (·.2)) us) (fun _ s' => ∃ σ' H', Inv X pins σ' H' s' ∧ Q σ' H') X.xe s
section
variable {X : Cx} {pos : Pos}
def gName (i : Nat) : TG := fun v σ H Q => Q (σ.set i (some v)) H
theorem pg_name {i : Nat} {x : Str} (hN : X.N.Nodup) (hi : X.N[i]? = some x) (hx : Loc X.env.scope x) (hf : X.fn x = true ∨ X.env.scope.names.lookup x = some .local := by first | exact .inl rfl | exact .inr rfl | assumption) : PG X (.Name x pos) (gName i) := by
  intro pins s σ H v u Q I r h
  exact wpAny_assign_Name (store_ok I hN hi hx r (fun s' I' => ⟨_, H, I', h⟩) hf)
def gNil : TGs := fun vs σ H Q => vs = [] ∧ Q σ H
def gCons (t : TG) (u : TGs) : TGs := fun vs σ H Q => ∃ v r, vs = v :: r ∧ t v σ H fun σ' H' => u r σ' H' Q
theorem pgs_nil : PGs X [] gNil := by
  intro pins s σ H vs us Q I r h
  obtain ⟨e, h⟩ := h
  subst e
  cases r
  exact assignInOrder_nil ⟨σ, H, I, h⟩
theorem pgs_cons {e : Expr} {es : List Expr} {t : TG} {u : TGs} (h1 : PG X e t) (h2 : PGs X es u)
    (hs : (assignEach (e :: es) X.env).map (·.2) = assign e X.env :: (assignEach es X.env).map (·.2) := by rfl) : PGs X (e :: es) (gCons t u) := by
  intro pins s σ H vs us Q I r h
  obtain ⟨v, vr, e1, h⟩ := h
  subst e1
  cases r with
  | cons r rr =>
    rw [hs]
    refine assignInOrder_cons (thn (h1 pins s σ H _ _ _ I r h) fun _ s1 ⟨σ1, H1, I1, q1⟩ => ?_)
    exact h2 pins s1 σ1 H1 _ _ Q I1 rr q1
def gTup (K : PySem.W.Frag) (n : Nat) (t : TGs) : TG := fun v σ H Q => ∃ a xs, v = .ref a ∧ SqT K H a xs ∧ xs.length = n ∧ t xs σ H Q
theorem pg_tup {es : List Expr} {k : Nat} {t : TGs} {n : Nat} (hc : X.calm = true) (h : PGs X es t)
    (hn : (assignEach es X.env).length = n := by rfl) (hst : (assignEach es X.env).findIdx? (·.1) = none := by rfl) : PG X (.Tuple es k pos) (gTup X.K n t) := by
  intro pins s σ H v u Q I r hw
  obtain ⟨a, xs, e1, hq, hl, hw⟩ := hw
  subst e1
  cases r
  obtain ⟨its, rv, ht, hz⟩ := I.tuple hq
  refine assign_Tuple_tuple (I.ok.hd hc) ht (by simp [hn, ← hl, rv.length]) hst fun h' hx => ?_
  have I1 : Inv X pins σ H { s with heap := h' } := I.kept (t' := s.toks) fun b o e => hx b o (Nat.ne_of_lt (Heap.lt_size e)) e
  exact h pins _ σ H xs _ Q I1 (by simpa using rv) hw
def tAsg (te : TE) (g : TG) : TS := fun D σ H => te σ H fun x H1 => g x σ H1 D.nx
theorem ps_asg {tg e : Expr} {te : TE} {g : TG} (he : PE X e te) (hg : PG X tg g) (hs : swapsWithSole [tg] e pos.line X.env = pure false := by rfl) (hw : swappedStores [tg] e X.env = pure none := by rfl)
    (h1 : (assignEach [tg] X.env).map (·.2) = [assign tg X.env] := by rfl) : PS X (.Assign [tg] e pos) (tAsg te g) := by
  intro pins s σ H D I h
  refine wpAny_Assign_stores (thn (he pins s σ H _ I h) fun v s1 ⟨x, H1, I1, r1, q1⟩ => ?_) hs hw
  rw [h1]
  exact thn (hg pins s1 σ H1 x v _ I1 r1 q1) fun _ s2 q => q
theorem ps_set {i : Nat} {x : Str} {e : Expr} {te : TE} {pos' : Pos} (hN : X.N.Nodup) (hi : X.N[i]? = some x) (hx : Loc X.env.scope x) (he : PE X e te) (hs : swapsWith e (some (.Name x pos')) pos.line X.env = pure false := by rfl) (hf : X.fn x = true ∨ X.env.scope.names.lookup x = some .local := by first | exact .inl rfl | exact .inr rfl | assumption) :
    PS X (.Assign [.Name x pos'] e pos) (tAsg te (gName i)) := by
  intro pins s σ H D I h
  refine wpAny_Assign_Name (thn (he pins s σ H _ I h) fun v s1 ⟨y, H1, I1, r1, q1⟩ => ?_) hs
  exact store_ok I1 hN hi hx r1 (fun s2 I2 => ⟨_, H1, I2, q1⟩) hf
end

section
variable {X : Cx} {pos : Pos}
def tWhile (c : TT) (tb : TS) : TS := fun D σ H => ∃ W : Nat → St → Hp → Prop, (∃ m, W m σ H) ∧ ∀ m σ H, W m σ H →
  c σ H fun b H1 => if b = true then ∃ N : St → Hp → Prop, (∀ σ' H', N σ' H' → ∃ m', m' < m ∧ W m' σ' H') ∧ tb { D with nx := N, ct := N, bk := D.nx } σ H1 else D.nx σ H1
theorem ps_while {c : Expr} {body : List Stmt} {tc : TT} {tb : TS} (hp : PassesOwn (model X.prog X.w) X.A X.env X.xe) (hc : PT X c tc) (hb : PSs X body tb) : PS X (.While c body [] pos) (tWhile tc tb) := by
  intro pins s σ H D I h
  obtain ⟨W, ⟨m0, w0⟩, turn⟩ := h
  refine wpAny_While (codeAny_whileLoop (fun n s' => ∃ σ' H', Inv X pins σ' H' s' ∧ W n σ' H') ?_ m0 ⟨σ, H, I, w0⟩)
  rintro n s1 ⟨σ1, H1, I1, w1⟩
  refine wpAny_passesOwn hp (thn (hc pins s1 σ1 H1 _ I1 (turn n σ1 H1 w1)) fun b s2 ⟨H2, I2, q2⟩ => ?_)
  cases b with
  | true =>
    obtain ⟨N, hN, q2⟩ := q2
    rw [if_pos rfl]
    refine wpAny_passesOwn hp (thn (hb pins s2 σ1 H2 _ I2 q2) fun f s3 q3 => ?_)
    cases f with
    | next =>
      obtain ⟨σ3, H3, I3, n3⟩ := q3
      obtain ⟨m', hm, w3⟩ := hN σ3 H3 n3
      exact ⟨m', hm, σ3, H3, I3, w3⟩
    | cont =>
      obtain ⟨σ3, H3, I3, n3⟩ := q3
      obtain ⟨m', hm, w3⟩ := hN σ3 H3 n3
      exact ⟨m', hm, σ3, H3, I3, w3⟩
    | brk => exact q3
    | ret v => exact q3
  | false =>
    rw [if_neg Bool.false_ne_true]
    exact wpAny_execs_nil ⟨σ1, H2, I2, q2⟩
end

structure It where
  go : Nat → Hp → Prop
  yld : Nat → Hp → V → Hp → Prop
  stop : Nat → Hp → Prop
def FpOk (X : Cx) (pins : List (Addr × Obj)) (H : Hp) (b : Addr) : Prop :=
  H b = none ∧ b ≠ X.env.locals ∧ b ∉ X.fs ∧ (b ∈ X.ex ∨ X.s₀.heap.objs.size ≤ b) ∧ (∀ x c, X.env.cells.lookup x = some c → c ≠ b) ∧ ∀ p ∈ X.pn ++ pins, p.1 ≠ b
theorem Inv.fpOk {X : Cx} {pins : List (Addr × Obj)} {σ : St} {H H' : Hp} {s : Shared} {b : Addr} (I : Inv X pins σ H s) (hb : s.heap.objs.size ≤ b) (hn : H' b = none) : FpOk X pins H' b := by
  refine ⟨hn, Nat.ne_of_gt (Nat.lt_of_lt_of_le I.lt hb), I.nofs hb, .inr (Nat.le_trans I.sz hb), fun x c e z => ?_, fun p hp z => ?_⟩
  · obtain ⟨v, q⟩ := I.cell x c e
    exact absurd (Nat.lt_of_lt_of_le q.lt (by rw [z]; exact hb)) (Nat.lt_irrefl _)
  · exact absurd (Nat.lt_of_lt_of_le (Heap.lt_size (I.pin p hp).1) (by rw [z]; exact hb)) (Nat.lt_irrefl _)
structure Turn (P : Program) (w : World) (K : PySem.W.Frag) (tg : Expr) (J : It) (fp : List Addr) (it : Addr) (tn : Nat → Heap → Prop) : Prop where
  mem : it ∈ fp
  obj : ∀ i h, tn i h → ∀ b ∈ fp, ∃ o, h.get? b = some o ∧ ∀ v, o.data ≠ .cell v
  keep : ∀ i h h', tn i h → (∀ b ∈ fp, ∀ o, h.get? b = some o → h'.get? b = some o) → tn i h'
  item : ∀ (X : Cx), X.prog = P → X.w = w → X.K = K → X.calm = true → ∀ (i : Nat) (pins : List (Addr × Obj)) (s : Shared) (σ : St) (H : Hp) (E : Value → Shared → Prop), Inv X pins σ H s → (∀ b ∈ fp, FpOk X pins H b) → tn i s.heap → J.go i H →
    wpAny (model P w) X.A (pyNext (.ref it)) (fun r s1 => ∃ u, r = some u ∧
      wpAny (model P w) X.A (letOwnedTupleGo tg (.ref it) u) (fun _ s2 => ∃ x H', Inv X pins σ H' s2 ∧ RelV x u ∧ J.yld i H x H' ∧ tn (i + 1) s2.heap ∧ ∀ b ∈ fp, H' b = none) E s1) E s
  done : ∀ (X : Cx), X.prog = P → X.w = w → X.K = K → X.calm = true → ∀ (i : Nat) (pins : List (Addr × Obj)) (s : Shared) (σ : St) (H : Hp) (E : Value → Shared → Prop), Inv X pins σ H s → (∀ b ∈ fp, FpOk X pins H b) → tn i s.heap → J.stop i H →
    wpAny (model P w) X.A (pyNext (.ref it)) (fun r s1 => r = none ∧ Inv X pins σ H s1) E s
  self : ∀ (A : Around) (i : Nat) (s : Shared) (Q : Value → Shared → Prop) (E : Value → Shared → Prop), tn i s.heap → Q (.ref it) s → wpAny (model P w) A (pyIter (.ref it)) Q E s
abbrev TI := St → Hp → (It → Hp → Prop) → Prop
def PIE (X : Cx) (pins : List (Addr × Obj)) (σ : St) (tg : Expr) (R : It → Hp → Prop) (itv : Value) (s2 : Shared) : Prop :=
  ∃ (it : Addr) (fp : List Addr) (tn : Nat → Heap → Prop) (J : It) (H' : Hp), itv = .ref it ∧ Inv X pins σ H' s2 ∧ Turn X.prog X.w X.K tg J fp it tn ∧ tn 0 s2.heap ∧ (∀ b ∈ fp, FpOk X pins H' b) ∧ R J H'
def PI (X : Cx) (tg iter : Expr) (wi : TI) : Prop :=
  ∀ (pins : List (Addr × Obj)) (s : Shared) (σ : St) (H : Hp) (R : It → Hp → Prop), Inv X pins σ H s → wi σ H R →
    wpAny (model X.prog X.w) X.A (eval iter X.env) (fun v s1 => wpAny (model X.prog X.w) X.A (pyIter v) (PIE X pins σ tg R) X.xe s1) X.xe s

theorem go_of {M : Model} {A : Around} {E : Value → Shared → Prop} {s : Shared} {tg : Expr} {it : Addr} {u : Value} {o : Obj} {n : String} {vs : Array Value} {Q : Unit → Shared → Prop} (ho : s.heap.get? it = some o) (hc : o.cls = .type n) (hd : o.data = .fields vs)
    (hn : ["enumerate", "zip", "dict_itemiterator", "dict_reverseitemiterator", "odict_iterator", "itertools.zip_longest", "itertools.pairwise"].contains n = false) (hQ : Q () s) : wpAny M A (letOwnedTupleGo tg (.ref it) u) Q E s := by
  unfold letOwnedTupleGo
  cases tg <;> first
    | exact wpAny_pure hQ
    | (cases u <;> first
        | exact wpAny_pure hQ
        | (refine wpAny_bind (wpAny_load ho ?_)
           rw [hc, hd]
           show wpAny M A (if (["enumerate", "zip", "dict_itemiterator", "dict_reverseitemiterator", "odict_iterator", "itertools.zip_longest", "itertools.pairwise"].contains n && vs[0]? == some (rawInt _)) = true then _ else _) Q E s
           rw [if_neg (by intro h; rw [hn, Bool.false_and] at h; cases h)]
           exact wpAny_pure hQ))

def Itl (K : PySem.W.Frag) (a : Addr) : It :=
  ⟨fun i H => ∃ xs x, SqL K H a xs ∧ xs[i]? = some x, fun i H x H' => H' = H ∧ ∀ xs, SqL K H a xs → xs[i]? = some x, fun i H => ∃ xs, SqL K H a xs ∧ xs.length ≤ i⟩
def Itt (K : PySem.W.Frag) (a : Addr) : It :=
  ⟨fun i H => ∃ xs x, SqT K H a xs ∧ xs[i]? = some x, fun i H x H' => H' = H ∧ ∀ xs, SqT K H a xs → xs[i]? = some x, fun i H => ∃ xs, SqT K H a xs ∧ xs.length ≤ i⟩
def Itr (lo : Int) (n : Nat) : It := ⟨fun i _ => i < n, fun i H x H' => H' = H ∧ x = .int (lo + i), fun i _ => n ≤ i⟩
theorem turn_list {P : Program} {w : World} {K : PySem.W.Frag} {tg : Expr} (a it : Addr) : Turn P w K tg (Itl K a) [it] it (fun i h => h.IsListIter it a i) where
  mem := by simp
  obj := fun i h st b hb => by
    have e : b = it := by simpa using hb
    subst e
    obtain ⟨o, e, c, d⟩ := st
    exact ⟨o, e, fun v z => by rw [d] at z; cases z⟩
  keep := fun i h h' st k => st.at fun o e => k it (by simp) o e
  item := by
    intro X hP hw hK hc i pins s σ H E I hf st hg
    subst hP hw hK
    obtain ⟨xs, x, hq, hx⟩ := hg
    obtain ⟨its, rv, p, hz⟩ := I.list hq
    obtain ⟨u, hu, ru⟩ := rv.get hx
    obtain ⟨f0, f1, f2, f3, f4, f5⟩ := hf it (by simp)
    refine wpAny_pyNext_list_item st p.isList (x := u) (by simpa using hu) fun h' st' sb => ?_
    have I1 : Inv X pins σ H { s with heap := h' } := I.turned (t' := s.toks) (fun b o hb e => (sb.2 b hb).trans e) f0 f1 f3 f4 f5
    obtain ⟨o, e, c, d⟩ := id st'
    exact ⟨u, rfl, go_of (s := { s with heap := h' }) e c d (by decide) ⟨x, H, I1, ru, ⟨rfl, fun ys hy => by rw [I.list_inj hy hq]; exact hx⟩, st', fun b hb => (hf b hb).1⟩⟩
  done := by
    intro X hP hw hK hc i pins s σ H E I hf st hg
    subst hP hw hK
    obtain ⟨xs, hq, hx⟩ := hg
    obtain ⟨its, rv, p, hz⟩ := I.list hq
    obtain ⟨f0, f1, f2, f3, f4, f5⟩ := hf it (by simp)
    have hl := rv.length
    exact wpAny_pyNext_list_end (I.ok.hd hc) st p.isList (by simp; omega) fun h' eb => ⟨rfl, I.turned (t' := s.toks) (fun b o hb e => eb b o hb e) f0 f1 f3 f4 f5⟩
  self := fun _ _ _ _ _ st h => wpAny_pyIter_listiter st h
theorem turn_tuple {P : Program} {w : World} {K : PySem.W.Frag} {tg : Expr} (a it : Addr) : Turn P w K tg (Itt K a) [it] it (fun i h => h.IsTupleIter it a i) where
  mem := by simp
  obj := fun i h st b hb => by
    have e : b = it := by simpa using hb
    subst e
    obtain ⟨o, e, c, d⟩ := st
    exact ⟨o, e, fun v z => by rw [d] at z; cases z⟩
  keep := fun i h h' st k => st.at fun o e => k it (by simp) o e
  item := by
    intro X hP hw hK hc i pins s σ H E I hf st hg
    subst hP hw hK
    obtain ⟨xs, x, hq, hx⟩ := hg
    obtain ⟨its, rv, p, hz⟩ := I.tuple hq
    obtain ⟨u, hu, ru⟩ := rv.get hx
    obtain ⟨f0, f1, f2, f3, f4, f5⟩ := hf it (by simp)
    refine wpAny_pyNext_tuple_item st (show s.heap.IsTuple a its.toArray from p) (x := u) (by simpa using hu) fun h' st' sb => ?_
    have I1 : Inv X pins σ H { s with heap := h' } := I.turned (t' := s.toks) (fun b o hb e => (sb.2 b hb).trans e) f0 f1 f3 f4 f5
    obtain ⟨o, e, c, d⟩ := id st'
    exact ⟨u, rfl, go_of (s := { s with heap := h' }) e c d (by decide) ⟨x, H, I1, ru, ⟨rfl, fun ys hy => by rw [I.tuple_inj hy hq]; exact hx⟩, st', fun b hb => (hf b hb).1⟩⟩
  done := by
    intro X hP hw hK hc i pins s σ H E I hf st hg
    subst hP hw hK
    obtain ⟨xs, hq, hx⟩ := hg
    obtain ⟨its, rv, p, hz⟩ := I.tuple hq
    obtain ⟨f0, f1, f2, f3, f4, f5⟩ := hf it (by simp)
    have hl := rv.length
    exact wpAny_pyNext_tuple_end (I.ok.hd hc) st (show s.heap.IsTuple a its.toArray from p) (by simp; omega) fun h' eb => ⟨rfl, I.turned (t' := s.toks) (fun b o hb e => eb b o hb e) f0 f1 f3 f4 f5⟩
  self := fun _ _ _ _ _ st h => wpAny_pyIter_tupleiter st h
theorem turn_range {P : Program} {w : World} {K : PySem.W.Frag} {tg : Expr} (it : Addr) (lo : Int) (n : Nat) : Turn P w K tg (Itr lo n) [it] it (fun i h => IsRangeIter h it (lo + (i : Nat) * 1) ((n : Int) - (i : Nat)) 1) where
  mem := by simp
  obj := fun i h st b hb => by
    have e : b = it := by simpa using hb
    subst e
    exact ⟨_, st, fun v z => by
      have z' : Data.fields _ = Data.cell v := z
      cases z'⟩
  keep := fun i h h' st k => k it (by simp) _ st
  item := by
    intro X hP hw hK hc i pins s σ H E I hf st hg
    subst hP hw hK
    obtain ⟨f0, f1, f2, f3, f4, f5⟩ := hf it (by simp)
    have W := Walks.range (prog := X.prog) (w := X.w) (I.ok.hd hc) it lo 1 n
    refine W.item i s _ _ hg st fun v h' tk hv st' kk => ?_
    obtain ⟨t, rfl⟩ := hv
    have I1 : Inv X pins σ H { s with heap := h', toks := tk } := I.turned (fun b o hb e => kk b o (by simpa using hb) e) f0 f1 f3 f4 f5
    refine ⟨_, rfl, go_of (s := { s with heap := h', toks := tk }) (n := "range_iterator") st' rfl rfl (by decide) ⟨.int (lo + i), H, I1, ⟨t, ?_⟩, ⟨rfl, rfl⟩, st', fun b hb => (hf b hb).1⟩⟩
    rw [Int.mul_one]
  done := by
    intro X hP hw hK hc i pins s σ H E I hf st hg
    subst hP hw hK
    obtain ⟨f0, f1, f2, f3, f4, f5⟩ := hf it (by simp)
    exact wpAny_pyNext_range_end (I.ok.hd hc) st (by have : n ≤ i := hg; omega) fun h' eb => ⟨rfl, I.turned (t' := s.toks) (fun b o hb e => eb b o hb e) f0 f1 f3 f4 f5⟩
  self := fun _ _ _ _ _ st h => wpAny_pyIter_rangeiter st h
end L2

namespace L2
open PySem PySem.Spec PyProof.Rows
section
variable {X : Cx} {tg : Expr}
def iList (K : PySem.W.Frag) (tl : TE) : TI := fun σ H R => tl σ H fun x H1 => ∃ a, x = .ref a ∧ (∃ xs, SqL K H1 a xs) ∧ R (Itl K a) H1
def iTup (K : PySem.W.Frag) (tl : TE) : TI := fun σ H R => tl σ H fun x H1 => ∃ a, x = .ref a ∧ (∃ xs, SqT K H1 a xs) ∧ R (Itt K a) H1
theorem pi_list {l : Expr} {tl : TE} (hl : PE X l tl) : PI X tg l (iList X.K tl) := by
  intro pins s σ H R I h
  refine thn (hl pins s σ H _ I h) fun v s1 ⟨x, H1, I1, r1, q1⟩ => ?_
  obtain ⟨a, e, ⟨xs, hq⟩, q⟩ := q1
  subst e
  cases r1
  obtain ⟨its, rv, p, hz⟩ := I1.list hq
  refine wpAny_pyIter_list p.isList ?_
  refine ⟨s1.heap.objs.size, [s1.heap.objs.size], _, _, H1, rfl, I1.kept (t' := s1.toks) fun b o e => Heap.get?_push_of_some _ e, turn_list a _, ⟨_, Heap.get?_push_size _ rfl, rfl, rfl⟩, fun b hb => ?_, q⟩
  have e : b = s1.heap.objs.size := by simpa using hb
  subst e
  exact I1.fpOk (Nat.le_refl _) (I1.hok.fresh (Nat.le_refl _))
theorem pi_tup {l : Expr} {tl : TE} (hl : PE X l tl) : PI X tg l (iTup X.K tl) := by
  intro pins s σ H R I h
  refine thn (hl pins s σ H _ I h) fun v s1 ⟨x, H1, I1, r1, q1⟩ => ?_
  obtain ⟨a, e, ⟨xs, hq⟩, q⟩ := q1
  subst e
  cases r1
  obtain ⟨its, rv, p, hz⟩ := I1.tuple hq
  refine wpAny_pyIter_tuple (show s1.heap.IsTuple a its.toArray from p) ?_
  refine ⟨s1.heap.objs.size, [s1.heap.objs.size], _, _, H1, rfl, I1.kept (t' := s1.toks) fun b o e => Heap.get?_push_of_some _ e, turn_tuple a _, ⟨_, Heap.get?_push_size _ rfl, rfl, rfl⟩, fun b hb => ?_, q⟩
  have e : b = s1.heap.objs.size := by simpa using hb
  subst e
  exact I1.fpOk (Nat.le_refl _) (I1.hok.fresh (Nat.le_refl _))
theorem range_it {pins : List (Addr × Obj)} {σ : St} {H : Hp} {s : Shared} {R : It → Hp → Prop} {E : Value → Shared → Prop} {lo hi : Int} {t u v : Tok} {tk : Nat} (I : Inv X pins σ H s) (h1 : -(2 ^ 62) ≤ lo) (h2 : lo < 2 ^ 62) (h3 : -(2 ^ 62) ≤ hi) (h4 : hi < 2 ^ 62)
    (q : R (Itr lo (hi - lo).toNat) H) : wpAny (model X.prog X.w) X.A (pyIter (.ref s.heap.objs.size)) (PIE X pins σ tg R) E { s with heap := s.heap.push { cls := .type "range", data := .fields #[.int lo t, .int hi u, .int 1 v] }, toks := tk } := by
  refine wpAny_pyIter_range (IsRange.new ..) (small_one h1 h2 h3 h4) ?_
  have I1 : Inv X pins σ H { s with heap := s.heap.push { cls := .type "range", data := .fields #[.int lo t, .int hi u, .int 1 v] }, toks := tk } := I.kept fun b o e => Heap.get?_push_of_some _ e
  refine ⟨(s.heap.push { cls := .type "range", data := .fields #[.int lo t, .int hi u, .int 1 v] }).objs.size, [(s.heap.push { cls := .type "range", data := .fields #[.int lo t, .int hi u, .int 1 v] }).objs.size], _, _, H, rfl,
    I1.kept (t' := tk) fun b o e => Heap.get?_push_of_some _ e, turn_range _ lo (hi - lo).toNat, ?_, fun b hb => ?_, q⟩
  · have e1 : lo + ((0 : Nat) : Int) * 1 = lo := by simp
    have e2 : (((hi - lo).toNat : Nat) : Int) - ((0 : Nat) : Int) = Builtin.Range.rangeSize lo hi 1 := by rw [rangeSize_one]; split <;> omega
    show IsRangeIter _ _ (lo + ((0 : Nat) : Int) * 1) ((((hi - lo).toNat : Nat) : Int) - ((0 : Nat) : Int)) 1
    rw [e1, e2]
    exact Heap.get?_push_size _ rfl
  · have e : b = (s.heap.push { cls := .type "range", data := .fields #[.int lo t, .int hi u, .int 1 v] }).objs.size := by simpa using hb
    subst e
    exact I1.fpOk (Nat.le_refl _) (I1.hok.fresh (Nat.le_refl _))
def iRng1 (ta : TA) : TI := fun σ H R => ta σ H fun vs H1 => ∃ j : Int, vs = [.int j] ∧ -(2 ^ 62) ≤ j ∧ j < 2 ^ 62 ∧ R (Itr 0 j.toNat) H1
theorem pi_range1 {a : Expr} {ta : TA} {p pos : Pos} (hg : Gl X "range") (hm : X.mg "range" = none) (ha : PA X [a] ta) (hs : starEach [a] X.env = [(false, eval a X.env)] := by rfl) : PI X tg (.Call (.Name "range" p) [a] [] pos) (iRng1 ta) := by
  intro pins s σ H R I h
  refine Call_ (ld_blt I hg hm boot_range (PyProof.Rows.callWith_type1 (thn (ha pos pins s σ H _ I h) fun us s1 ⟨vs, H1, I1, r1, q1⟩ => ?_) hs rfl))
  obtain ⟨j, e, q1, q2, q⟩ := q1
  subst e
  cases r1 with
  | cons r rr =>
    cases rr
    obtain ⟨t, rfl⟩ := r
    exact call_range_1 (range_it I1 (by omega) (by omega) q1 q2 (by simpa using q))
def tFor (wi : TI) (g : TG) (tb : TS) : TS := fun D σ H => wi σ H fun J H1 => ∃ W : Nat → Nat → St → Hp → Prop, (∃ m, W 0 m σ H1) ∧ ∀ i m σ H, W i m σ H →
  (J.stop i H ∧ D.nx σ H) ∨ (J.go i H ∧ ∃ N : St → Hp → Prop, (∀ σ' H', N σ' H' → ∃ m', m' < m ∧ W (i + 1) m' σ' H') ∧ ∀ x H', J.yld i H x H' → g x σ H' fun σ2 H2 => tb { D with nx := N, ct := N, bk := D.nx } σ2 H2)
def pinsAt (fp : List Addr) (h : Heap) : List (Addr × Obj) := fp.filterMap fun b => (h.get? b).map fun o => (b, o)
theorem mem_pinsAt {fp : List Addr} {h : Heap} {b : Addr} {o : Obj} (hb : b ∈ fp) (e : h.get? b = some o) : (b, o) ∈ pinsAt fp h := List.mem_filterMap.mpr ⟨b, hb, by rw [e]; rfl⟩
theorem of_pinsAt {fp : List Addr} {h : Heap} {p : Addr × Obj} (hp : p ∈ pinsAt fp h) : p.1 ∈ fp ∧ h.get? p.1 = some p.2 := by
  obtain ⟨b, hb, e⟩ := List.mem_filterMap.mp hp
  cases q : h.get? b with
  | none => rw [q] at e; cases e
  | some o =>
    rw [q] at e
    have e' : (b, o) = p := Option.some.inj e
    subst e'
    exact ⟨hb, q⟩
theorem Inv.pinned {pins : List (Addr × Obj)} {σ : St} {H : Hp} {s : Shared} {fp : List Addr} (I : Inv X pins σ H s) (hf : ∀ b ∈ fp, FpOk X pins H b) (ho : ∀ b ∈ fp, ∃ o, s.heap.get? b = some o ∧ ∀ v, o.data ≠ .cell v) : Inv X (pins ++ pinsAt fp s.heap) σ H s :=
  I.pins_of fun p hp => (List.mem_append.mp hp).elim (fun z => I.pin p (List.mem_append_right _ z)) fun z => by
    obtain ⟨hb, e⟩ := of_pinsAt z
    obtain ⟨f0, f1, f2, _⟩ := hf p.1 hb
    obtain ⟨o, e', d⟩ := ho p.1 hb
    rw [e] at e'; cases e'
    exact ⟨e, f0, f1, f2, d⟩
theorem Inv.unpinned {pins pl : List (Addr × Obj)} {σ : St} {H : Hp} {s : Shared} (I : Inv X (pins ++ pl) σ H s) : Inv X pins σ H s := I.pins_of fun p hp => I.pin p (List.mem_append_right _ (List.mem_append_left _ hp))
theorem ps_for {iter : Expr} {body : List Stmt} {wi : TI} {g : TG} {tb : TS} {pos : Pos} (hp : PassesOwn (model X.prog X.w) X.A X.env X.xe) (hc : X.calm = true) (hi : PI X tg iter wi) (hg : PG X tg g) (hb : PSs X body tb)
    (hs : ∀ x, foldedSetIterable iter X.env x = pure x := by intro _; rfl) : PS X (.For tg iter body [] pos) (tFor wi g tb) := by
  intro pins s σ H D I h
  refine wpAny_For (thn (hi pins s σ H _ I h) fun v s1 h1 => thn h1 fun itv s2 h2 => ?_) hs
  obtain ⟨it, fp, tn, J, H2, e, I2, T, st2, f2, W, ⟨m0, w0⟩, turn⟩ := h2
  subst e
  -- what stays true of the iterator's objects through the loop
  have stat : ∀ {H' : Hp}, (∀ b ∈ fp, H' b = none) → ∀ b ∈ fp, FpOk X pins H' b := fun hn b hb => ⟨hn b hb, (f2 b hb).2⟩
  refine codeAny_forLoop_any (fun n s' => ∃ i σ' H', Inv X pins σ' H' s' ∧ tn i s'.heap ∧ (∀ b ∈ fp, H' b = none) ∧ W i n σ' H') ?_ m0 ⟨0, σ, H2, I2, st2, fun b hb => (f2 b hb).1, w0⟩
  rintro n s3 ⟨i, σ3, H3, I3, st3, fr3, w3⟩
  rcases turn i n σ3 H3 w3 with ⟨stop, qn⟩ | ⟨go, N, hN, step⟩
  · refine wpAny_passesOwn hp (thn (T.done X rfl rfl rfl hc i pins s3 σ3 H3 X.xe I3 (stat fr3) st3 stop) fun r s4 ⟨hr, I4⟩ => ?_)
    subst hr
    exact wpAny_execs_nil ⟨σ3, H3, I4, qn⟩
  · refine wpAny_passesOwn hp (thn (T.item X rfl rfl rfl hc i pins s3 σ3 H3 X.xe I3 (stat fr3) st3 go) fun r s4 ⟨u, hr, h4⟩ => ?_)
    subst hr
    refine wpAny_passesOwn hp (thn h4 fun _ s5 ⟨x, H5, I5, r5, y5, st5, fr5⟩ => ?_)
    have I5' := I5.pinned (stat fr5) (T.obj _ _ st5)
    refine wpAny_passesOwn hp (thn (hg _ s5 σ3 H5 x u _ I5' r5 (step x H5 y5)) fun _ s6 ⟨σ6, H6, I6, q6⟩ => ?_)
    refine wpAny_passesOwn hp (thn (hb _ s6 σ6 H6 _ I6 q6) fun f s7 q7 => ?_)
    have again : ∀ {σ7 : St} {H7 : Hp}, Inv X (pins ++ pinsAt fp s5.heap) σ7 H7 s7 → N σ7 H7 → ∃ m, m < n ∧ ∃ i σ' H', Inv X pins σ' H' s7 ∧ tn i s7.heap ∧ (∀ b ∈ fp, H' b = none) ∧ W i m σ' H' := fun {σ7 H7} I7 n7 => by
      obtain ⟨m', hm, w7⟩ := hN σ7 H7 n7
      refine ⟨m', hm, i + 1, σ7, H7, I7.unpinned, T.keep _ _ _ st5 fun b hb o e => (I7.pin (b, o) (List.mem_append_right _ (List.mem_append_right _ (mem_pinsAt hb e)))).1, fun b hb => ?_, w7⟩
      obtain ⟨o, e, d⟩ := T.obj _ _ st5 b hb
      exact (I7.pin (b, o) (List.mem_append_right _ (List.mem_append_right _ (mem_pinsAt hb e)))).2.1
    cases f with
    | next => obtain ⟨σ7, H7, I7, n7⟩ := q7; exact again I7 n7
    | cont => obtain ⟨σ7, H7, I7, n7⟩ := q7; exact again I7 n7
    | brk => obtain ⟨σ7, H7, I7, q7⟩ := q7; exact ⟨σ7, H7, I7.unpinned, q7⟩
    | ret v => obtain ⟨x7, σ7, H7, I7, r7, q7⟩ := q7; exact ⟨x7, σ7, H7, I7.unpinned, r7, q7⟩
end

theorem for_list {K : PySem.W.Frag} {a : Addr} {xs : List V} {g : TG} {tb : TS} {D : Ends} {σ : St} {H : Hp} (Pv : Nat → St → Hp → Prop) (h0 : Pv 0 σ H) (hl : ∀ i σ H, i ≤ xs.length → Pv i σ H → SqL K H a xs)
    (hs : ∀ i x σ H, xs[i]? = some x → Pv i σ H → g x σ H fun σ2 H2 => tb { D with nx := Pv (i + 1), ct := Pv (i + 1), bk := D.nx } σ2 H2) (hd : ∀ σ H, Pv xs.length σ H → D.nx σ H) :
    ∃ W : Nat → Nat → St → Hp → Prop, (∃ m, W 0 m σ H) ∧ ∀ i m σ H, W i m σ H →
      ((Itl K a).stop i H ∧ D.nx σ H) ∨ ((Itl K a).go i H ∧ ∃ N : St → Hp → Prop, (∀ σ' H', N σ' H' → ∃ m', m' < m ∧ W (i + 1) m' σ' H') ∧ ∀ x H', (Itl K a).yld i H x H' → g x σ H' fun σ2 H2 => tb { D with nx := N, ct := N, bk := D.nx } σ2 H2) := by
  refine ⟨fun i m σ H => m = xs.length - i ∧ i ≤ xs.length ∧ Pv i σ H, ⟨xs.length, by simp, Nat.zero_le _, h0⟩, ?_⟩
  rintro i m σ H ⟨rfl, hi, p⟩
  have q := hl i σ H hi p
  by_cases hlt : i < xs.length
  · refine .inr ⟨⟨xs, xs[i], q, by simp [hlt]⟩, Pv (i + 1), fun σ' H' p' => ⟨xs.length - (i + 1), by omega, rfl, hlt, p'⟩, fun x H' y => ?_⟩
    obtain ⟨e, y⟩ := y
    subst e
    exact hs i x σ _ (y xs q) p
  · have e : i = xs.length := by omega
    subst e
    exact .inl ⟨⟨xs, q, Nat.le_refl _⟩, hd σ H p⟩
theorem for_tup {K : PySem.W.Frag} {a : Addr} {xs : List V} {g : TG} {tb : TS} {D : Ends} {σ : St} {H : Hp} (Pv : Nat → St → Hp → Prop) (h0 : Pv 0 σ H) (hl : ∀ i σ H, i ≤ xs.length → Pv i σ H → SqT K H a xs)
    (hs : ∀ i x σ H, xs[i]? = some x → Pv i σ H → g x σ H fun σ2 H2 => tb { D with nx := Pv (i + 1), ct := Pv (i + 1), bk := D.nx } σ2 H2) (hd : ∀ σ H, Pv xs.length σ H → D.nx σ H) :
    ∃ W : Nat → Nat → St → Hp → Prop, (∃ m, W 0 m σ H) ∧ ∀ i m σ H, W i m σ H →
      ((Itt K a).stop i H ∧ D.nx σ H) ∨ ((Itt K a).go i H ∧ ∃ N : St → Hp → Prop, (∀ σ' H', N σ' H' → ∃ m', m' < m ∧ W (i + 1) m' σ' H') ∧ ∀ x H', (Itt K a).yld i H x H' → g x σ H' fun σ2 H2 => tb { D with nx := N, ct := N, bk := D.nx } σ2 H2) := by
  refine ⟨fun i m σ H => m = xs.length - i ∧ i ≤ xs.length ∧ Pv i σ H, ⟨xs.length, by simp, Nat.zero_le _, h0⟩, ?_⟩
  rintro i m σ H ⟨rfl, hi, p⟩
  have q := hl i σ H hi p
  by_cases hlt : i < xs.length
  · refine .inr ⟨⟨xs, xs[i], q, by simp [hlt]⟩, Pv (i + 1), fun σ' H' p' => ⟨xs.length - (i + 1), by omega, rfl, hlt, p'⟩, fun x H' y => ?_⟩
    obtain ⟨e, y⟩ := y
    subst e
    exact hs i x σ _ (y xs q) p
  · have e : i = xs.length := by omega
    subst e
    exact .inl ⟨⟨xs, q, Nat.le_refl _⟩, hd σ H p⟩
theorem for_range {lo : Int} {n : Nat} {g : TG} {tb : TS} {D : Ends} {σ : St} {H : Hp} (Pv : Nat → St → Hp → Prop) (h0 : Pv 0 σ H)
    (hs : ∀ i σ H, i < n → Pv i σ H → g (.int (lo + i)) σ H fun σ2 H2 => tb { D with nx := Pv (i + 1), ct := Pv (i + 1), bk := D.nx } σ2 H2) (hd : ∀ σ H, Pv n σ H → D.nx σ H) :
    ∃ W : Nat → Nat → St → Hp → Prop, (∃ m, W 0 m σ H) ∧ ∀ i m σ H, W i m σ H →
      ((Itr lo n).stop i H ∧ D.nx σ H) ∨ ((Itr lo n).go i H ∧ ∃ N : St → Hp → Prop, (∀ σ' H', N σ' H' → ∃ m', m' < m ∧ W (i + 1) m' σ' H') ∧ ∀ x H', (Itr lo n).yld i H x H' → g x σ H' fun σ2 H2 => tb { D with nx := N, ct := N, bk := D.nx } σ2 H2) := by
  refine ⟨fun i m σ H => m = n - i ∧ i ≤ n ∧ Pv i σ H, ⟨n, by simp, Nat.zero_le _, h0⟩, ?_⟩
  rintro i m σ H ⟨rfl, hi, p⟩
  by_cases hlt : i < n
  · refine .inr ⟨hlt, Pv (i + 1), fun σ' H' p' => ⟨n - (i + 1), by omega, rfl, hlt, p'⟩, fun x H' y => ?_⟩
    obtain ⟨e, y⟩ := y
    subst e y
    exact hs i σ _ hlt p
  · have e : i = n := by omega
    subst e
    exact .inl ⟨Nat.le_refl _, hd σ H p⟩
end L2

namespace L2
open PySem PySem.Spec PyProof.Rows

abbrev R2 := V → V → Hp → VK → Prop
def OpR (X : Cx) (f : Value → Value → Sem Value) (r : R2) : Prop :=
  ∀ (pins : List (Addr × Obj)) (s : Shared) (σ : St) (H : Hp) (x y : V) (v u : Value) (Q : VK), Inv X pins σ H s → RelV x v → RelV y u → r x y H Q →
    wpAny (model X.prog X.w) X.A (f v u) (EP X pins σ Q) X.xe s
def UnR (X : Cx) (f : Value → Sem Value) (r : V → Hp → VK → Prop) : Prop :=
  ∀ (pins : List (Addr × Obj)) (s : Shared) (σ : St) (H : Hp) (x : V) (v : Value) (Q : VK), Inv X pins σ H s → RelV x v → r x H Q →
    wpAny (model X.prog X.w) X.A (f v) (EP X pins σ Q) X.xe s
def CallR (X : Cx) (f : Value) (r : List V → Hp → VK → Prop) : Prop :=
  ∀ (pins : List (Addr × Obj)) (s : Shared) (σ : St) (H : Hp) (xs : List V) (us : List Value) (Q : VK), Inv X pins σ H s → Vals xs us → r xs H Q →
    wpAny (model X.prog X.w) X.A (call f us) (EP X pins σ Q) X.xe s
def tOp (r : R2) (ta tb : TE) : TE := fun σ H Q => ta σ H fun x H1 => tb σ H1 fun y H2 => r x y H2 Q
def tUn (r : V → Hp → VK → Prop) (ta : TE) : TE := fun σ H Q => ta σ H fun x H1 => r x H1 Q
def rI (C : Int → Int → Prop) (g : Int → Int → V) : R2 := fun x y H Q => ∃ i j, x = .int i ∧ y = .int j ∧ C i j ∧ Q (g i j) H
def rI0 (g : Int → Int → V) : R2 := fun x y H Q => ∃ i j, x = .int i ∧ y = .int j ∧ Q (g i j) H
def rU (g : Int → V) : V → Hp → VK → Prop := fun x H Q => ∃ i, x = .int i ∧ Q (g i) H

section
variable {X : Cx} {a b c : Expr} {ta tb tc : TE} {pos : Pos}

theorem binT (ha : PE X a ta) (hb : PE X b tb) {pins : List (Addr × Obj)} {s : Shared} {σ : St} {H : Hp} {R : V → V → Hp → Prop} (I : Inv X pins σ H s)
    (h : ta σ H fun x H1 => tb σ H1 fun y H2 => R x y H2) {Q : Value → Shared → Prop} {f : Value → Value → Sem Value}
    (hf : ∀ v u s2 x y H2, Inv X pins σ H2 s2 → RelV x v → RelV y u → R x y H2 → wpAny (model X.prog X.w) X.A (f v u) Q X.xe s2) :
    wpAny (model X.prog X.w) X.A (eval a X.env) (fun v s₁ => wpAny (model X.prog X.w) X.A (eval b X.env) (fun u s₂ => wpAny (model X.prog X.w) X.A (f v u) Q X.xe s₂) X.xe s₁) X.xe s := by
  refine thn (ha pins s σ H _ I h) fun v s1 ⟨x, H1, I1, r1, q1⟩ => ?_
  refine thn (hb pins s1 σ H1 _ I1 q1) fun u s2 ⟨y, H2, I2, r2, q2⟩ => ?_
  exact hf v u s2 x y H2 I2 r1 r2 q2

theorem pe_op {op : Operator} {r : R2} (ho : OpR X (binaryOp op) r) (ha : PE X a ta) (hb : PE X b tb) : PE X (.BinOp a op b pos) (tOp r ta tb) := by
  intro pins s σ H Q I h
  exact wpAny_BinOp (binT ha hb I h fun v u s2 x y H2 I2 rx ry q => ho pins s2 σ H2 x y v u Q I2 rx ry q)
theorem pe_un {op : UnaryOp} {r : V → Hp → VK → Prop} (ho : UnR X (unaryOp op) r) (ha : PE X a ta) : PE X (.UnaryOp op a pos) (tUn r ta) := by
  intro pins s σ H Q I h
  exact UnaryOp_ (thn (ha pins s σ H _ I h) fun v s1 ⟨x, H1, I1, r1, q1⟩ => ho pins s1 σ H1 x v Q I1 r1 q1)
theorem opI {f : Value → Value → Sem Value} {C : Int → Int → Prop} {g : Int → Int → Int}
    (rule : ∀ (i j : Int) (t u : Tok) (s : Shared) (Q : Value → Shared → Prop) (E : Value → Shared → Prop), C i j → Q (.int (g i j) s.toks) { s with toks := s.toks + 1 } → wpAny (model X.prog X.w) X.A (f (.int i t) (.int j u)) Q E s) :
    OpR X f (rI C fun i j => .int (g i j)) := by
  intro pins s σ H x y v u Q I rx ry h
  obtain ⟨i, j, rfl, rfl, hc, q⟩ := h
  obtain ⟨t, rfl⟩ := rx
  obtain ⟨t', rfl⟩ := ry
  exact rule i j t t' s _ _ hc ⟨.int (g i j), H, I.tok _, ⟨_, rfl⟩, q⟩
theorem opI0 {f : Value → Value → Sem Value} {g : Int → Int → Int}
    (rule : ∀ (i j : Int) (t u : Tok) (s : Shared) (Q : Value → Shared → Prop) (E : Value → Shared → Prop), Q (.int (g i j) s.toks) { s with toks := s.toks + 1 } → wpAny (model X.prog X.w) X.A (f (.int i t) (.int j u)) Q E s) :
    OpR X f (rI0 fun i j => .int (g i j)) := by
  intro pins s σ H x y v u Q I rx ry h
  obtain ⟨i, j, rfl, rfl, q⟩ := h
  obtain ⟨t, rfl⟩ := rx
  obtain ⟨t', rfl⟩ := ry
  exact rule i j t t' s _ _ ⟨.int (g i j), H, I.tok _, ⟨_, rfl⟩, q⟩
theorem opB0 {f : Value → Value → Sem Value} {g : Int → Int → Bool}
    (rule : ∀ (i j : Int) (t u : Tok) (s : Shared) (Q : Value → Shared → Prop) (E : Value → Shared → Prop), Q (.bool (g i j)) s → wpAny (model X.prog X.w) X.A (f (.int i t) (.int j u)) Q E s) :
    OpR X f (rI0 fun i j => .bl (g i j)) := by
  intro pins s σ H x y v u Q I rx ry h
  obtain ⟨i, j, rfl, rfl, q⟩ := h
  obtain ⟨t, rfl⟩ := rx
  obtain ⟨t', rfl⟩ := ry
  exact rule i j t t' s _ _ ⟨.bl (g i j), H, I, rfl, q⟩

def CDiv (i j : Int) : Prop := 0 < j ∧ j < 1073741824
def CPow (i j : Int) : Prop := 0 ≤ j ∧ j ≤ 1000000 ∧ i.natAbs < 2 ^ 64
def CMul (i j : Int) : Prop := (-(2 ^ 64) < i ∧ i < 2 ^ 64) ∨ (-(2 ^ 64) < j ∧ j < 2 ^ 64)
theorem CMul.ok {i j : Int} (h : CMul i j) : IntMulOk i j := by
  rcases h with ⟨h1, h2⟩ | ⟨h1, h2⟩
  · exact .of_left (intBits_le_64 h1 h2)
  · exact .of_right (intBits_le_64 h1 h2)
theorem op_add : OpR X (binaryOp .Add) (rI0 fun i j => .int (i + j)) := opI0 fun _ _ _ _ _ _ _ q => add_int q
theorem op_sub : OpR X (binaryOp .Sub) (rI0 fun i j => .int (i - j)) := opI0 fun _ _ _ _ _ _ _ q => sub_int q
theorem op_mul : OpR X (binaryOp .Mult) (rI CMul fun i j => .int (i * j)) := opI fun _ _ _ _ _ _ _ hc q => mul_int q hc.ok
theorem op_fdiv : OpR X (binaryOp .FloorDiv) (rI CDiv fun i j => .int (i / j)) := opI fun i j _ _ _ _ _ hc q => by
  have h1 : (0 : Int) < j := hc.1
  have h2 : j < 1073741824 := hc.2
  exact floordiv_int (by omega) (by rw [Int.fdiv_eq_ediv_of_nonneg i (by omega)]; exact q) (.inl (PyProof.noPylong_small (by omega)))
theorem op_mod : OpR X (binaryOp .Mod) (rI (fun _ j => 0 < j) fun i j => .int (i % j)) := opI fun i j _ _ _ _ _ hc q => by
  have h1 : (0 : Int) < j := hc
  exact mod_int' (by omega) (by rw [Int.fmod_eq_emod_of_nonneg i (by omega)]; exact q)
theorem op_pow : OpR X (binaryOp .Pow) (rI CPow fun i j => .int (i ^ j.toNat)) := opI fun _ _ _ _ _ _ _ hc q => pow_int_small hc.1 hc.2.1 hc.2.2 q
theorem unI {f : Value → Sem Value} {g : Int → Int}
    (rule : ∀ (i : Int) (t : Tok) (s : Shared) (Q : Value → Shared → Prop) (E : Value → Shared → Prop), Q (.int (g i) s.toks) { s with toks := s.toks + 1 } → wpAny (model X.prog X.w) X.A (f (.int i t)) Q E s) :
    UnR X f (rU fun i => .int (g i)) := by
  intro pins s σ H x v Q I rx h
  obtain ⟨i, rfl, q⟩ := h
  obtain ⟨t, rfl⟩ := rx
  exact rule i t s _ _ ⟨.int (g i), H, I.tok _, ⟨_, rfl⟩, q⟩
theorem un_neg : UnR X (unaryOp .USub) (rU fun i => .int (-i)) := unI fun _ _ _ _ _ q => neg_int q
end

def scal : V → V → Bool
  | .non, .non => true | .non, .int _ => true | .int _, .non => true | .non, .bl _ => true | .bl _, .non => true | .non, .str _ => true | .str _, .non => true
  | .int _, .int _ => true | .bl _, .bl _ => true | .str _, .str _ => true | .byt _, .byt _ => true
  | .int _, .str _ => true | .str _, .int _ => true | .bl _, .str _ => true | .str _, .bl _ => true
  | _, _ => false
def rEq : R2 := fun x y H Q => scal x y = true ∧ Q (.bl (decide (x = y))) H
def rNe : R2 := fun x y H Q => scal x y = true ∧ Q (.bl (!decide (x = y))) H

theorem dec_int {i j : Int} : decide (V.int i = V.int j) = (i == j) := by
  rw [Bool.eq_iff_iff]
  simp
theorem dec_bl {i j : Bool} : decide (V.bl i = V.bl j) = (i == j) := by
  rw [Bool.eq_iff_iff]
  simp
theorem dec_str {i j : Str} : decide (V.str i = V.str j) = (i == j) := by
  rw [Bool.eq_iff_iff]
  simp
theorem dec_byt {i j : Array UInt8} : decide (V.byt i = V.byt j) = (i.toList == j.toList) := by
  rw [Bool.eq_iff_iff]
  cases i
  cases j
  simp

section
variable {X : Cx} {a b c : Expr} {ta tb tc : TE} {pos : Pos}
theorem fin_bl {pins : List (Addr × Obj)} {σ : St} {H : Hp} {s : Shared} {Q : VK} {k k' : Bool} (I : Inv X pins σ H s) (q : Q (.bl k) H) (e : k = k') : EP X pins σ Q (.bool k') s := by
  subst e
  exact ⟨.bl k, H, I, rfl, q⟩
theorem op_eq : OpR X (compareOp .Eq) rEq := by
  intro pins s σ H x y v u Q I rx ry h
  obtain ⟨hs, q⟩ := h
  cases x with
  | non =>
    cases rx
    cases y with
    | non => cases ry; exact PySem.EqNone.eq_none_none (fin_bl I q (by simp))
    | bl j => cases ry; exact PySem.EqNone.eq_none_bool (fin_bl I q (by simp))
    | int j => obtain ⟨t', rfl⟩ := ry; exact PySem.EqNone.eq_none_int (fin_bl I q (by simp))
    | str j => obtain ⟨t', rfl⟩ := ry; exact PySem.EqNone.eq_none_str (fin_bl I q (by simp))
    | _ => exact absurd (show false = true from hs) Bool.false_ne_true
  | bl i =>
    cases rx
    cases y with
    | non => cases ry; exact PySem.EqNone.eq_bool_none (fin_bl I q (by simp))
    | bl j => cases ry; exact eq_bool (fin_bl I q dec_bl)
    | str j => obtain ⟨t', rfl⟩ := ry; exact PySem.EqMixed.eq_bool_str (fin_bl I q (by simp))
    | _ => exact absurd (show false = true from hs) Bool.false_ne_true
  | int i =>
    obtain ⟨t, rfl⟩ := rx
    cases y with
    | non => cases ry; exact PySem.EqNone.eq_int_none (fin_bl I q (by simp))
    | int j => obtain ⟨t', rfl⟩ := ry; exact eq_int (fin_bl I q dec_int)
    | str j => obtain ⟨t', rfl⟩ := ry; exact PySem.EqMixed.eq_int_str (fin_bl I q (by simp))
    | _ => exact absurd (show false = true from hs) Bool.false_ne_true
  | str i =>
    obtain ⟨t, rfl⟩ := rx
    cases y with
    | non => cases ry; exact PySem.EqNone.eq_str_none (fin_bl I q (by simp))
    | bl j => cases ry; exact PySem.EqMixed.eq_str_bool (fin_bl I q (by simp))
    | int j => obtain ⟨t', rfl⟩ := ry; exact PySem.EqMixed.eq_str_int (fin_bl I q (by simp))
    | str j => obtain ⟨t', rfl⟩ := ry; exact eq_str (fin_bl I q dec_str)
    | _ => exact absurd (show false = true from hs) Bool.false_ne_true
  | byt i =>
    obtain ⟨t, rfl⟩ := rx
    cases y with
    | byt j => obtain ⟨t', rfl⟩ := ry; exact PySem.W.eq_bytes (fin_bl I q dec_byt)
    | _ => exact absurd (show false = true from hs) Bool.false_ne_true
  | _ => cases y <;> exact absurd (show false = true from hs) Bool.false_ne_true
theorem op_ne : OpR X (compareOp .NotEq) rNe := by
  intro pins s σ H x y v u Q I rx ry h
  obtain ⟨hs, q⟩ := h
  cases x with
  | non =>
    cases rx
    cases y with
    | non => cases ry; exact PySem.EqNone.ne_none_none (fin_bl I q (by simp))
    | bl j => cases ry; exact PySem.EqNone.ne_none_bool (fin_bl I q (by simp))
    | int j => obtain ⟨t', rfl⟩ := ry; exact PySem.EqNone.ne_none_int (fin_bl I q (by simp))
    | str j => obtain ⟨t', rfl⟩ := ry; exact PySem.EqNone.ne_none_str (fin_bl I q (by simp))
    | _ => exact absurd (show false = true from hs) Bool.false_ne_true
  | bl i =>
    cases rx
    cases y with
    | non => cases ry; exact PySem.EqNone.ne_bool_none (fin_bl I q (by simp))
    | bl j => cases ry; exact ne_bool (fin_bl I q (congrArg not dec_bl))
    | str j => obtain ⟨t', rfl⟩ := ry; exact PySem.EqMixed.ne_bool_str (fin_bl I q (by simp))
    | _ => exact absurd (show false = true from hs) Bool.false_ne_true
  | int i =>
    obtain ⟨t, rfl⟩ := rx
    cases y with
    | non => cases ry; exact PySem.EqNone.ne_int_none (fin_bl I q (by simp))
    | int j => obtain ⟨t', rfl⟩ := ry; exact ne_int (fin_bl I q (congrArg not dec_int))
    | str j => obtain ⟨t', rfl⟩ := ry; exact PySem.EqMixed.ne_int_str (fin_bl I q (by simp))
    | _ => exact absurd (show false = true from hs) Bool.false_ne_true
  | str i =>
    obtain ⟨t, rfl⟩ := rx
    cases y with
    | non => cases ry; exact PySem.EqNone.ne_str_none (fin_bl I q (by simp))
    | bl j => cases ry; exact PySem.EqMixed.ne_str_bool (fin_bl I q (by simp))
    | int j => obtain ⟨t', rfl⟩ := ry; exact PySem.EqMixed.ne_str_int (fin_bl I q (by simp))
    | str j => obtain ⟨t', rfl⟩ := ry; exact ne_str (fin_bl I q (congrArg not dec_str))
    | _ => exact absurd (show false = true from hs) Bool.false_ne_true
  | byt i =>
    obtain ⟨t, rfl⟩ := rx
    cases y with
    | byt j => obtain ⟨t', rfl⟩ := ry; exact PySem.W.ne_bytes (fin_bl I q (congrArg not dec_byt))
    | _ => exact absurd (show false = true from hs) Bool.false_ne_true
  | _ => cases y <;> exact absurd (show false = true from hs) Bool.false_ne_true

theorem op_lt : OpR X (compareOp .Lt) (rI0 fun i j => .bl (decide (i < j))) := opB0 fun _ _ _ _ _ _ _ q => lt_int q
theorem op_le : OpR X (compareOp .LtE) (rI0 fun i j => .bl (decide (i ≤ j))) := opB0 fun _ _ _ _ _ _ _ q => le_int q
theorem op_gt : OpR X (compareOp .Gt) (rI0 fun i j => .bl (decide (j < i))) := opB0 fun _ _ _ _ _ _ _ q => gt_int q
theorem op_ge : OpR X (compareOp .GtE) (rI0 fun i j => .bl (decide (j ≤ i))) := opB0 fun _ _ _ _ _ _ _ q => ge_int q
theorem nomark (b : Expr) {op : CmpOp} (h : op ≠ .In := by decide) (h2 : op ≠ .NotIn := by decide) : behindInMarks op b = false := by
  have e1 : (op == CmpOp.In) = false := by cases op <;> first | rfl | exact absurd rfl h
  have e2 : (op == CmpOp.NotIn) = false := by cases op <;> first | rfl | exact absurd rfl h2
  cases b <;> simp [behindInMarks, e1, e2]
theorem pe_cmpR {op : CmpOp} {r : R2} (ho : OpR X (compareOp op) r) (ha : PE X a ta) (hb : PE X b tb) (hm : behindInMarks op b = false) : PE X (.Compare a [op] [b] pos) (tOp r ta tb) := by
  intro pins s σ H Q I h
  exact wpAny_Compare1 (binT ha hb I h fun v u s2 x y H2 I2 rx ry q => ho pins s2 σ H2 x y v u Q I2 rx ry q) hm
def tTest (t : TE) : TT := fun σ H Q => t σ H fun x H' => ∃ k, x = .bl k ∧ Q k H'
theorem pt_cmpR {op : CmpOp} {r : R2} (ho : OpR X (compareOp op) r) (ha : PE X a ta) (hb : PE X b tb) (hm : behindInMarks op b = false) : PT X (.Compare a [op] [b] pos) (tTest (tOp r ta tb)) := by
  intro pins s σ H Q I h
  refine wpAny_isTrue_Compare1 (thn (ha pins s σ H _ I h) fun v s1 ⟨x, H1, I1, r1, q1⟩ => thn (hb pins s1 σ H1 _ I1 q1) fun u s2 ⟨y, H2, I2, r2, q2⟩ =>
    thn (ho pins s2 σ H2 x y v u _ I2 r1 r2 q2) fun c s3 ⟨z, H3, I3, r3, k, e, q3⟩ => ?_) hm
  subst e
  cases r3
  exact wpAny_truthy_bool ⟨H3, I3, q3⟩
def tChain (r r' : R2) (ta tb tc : TE) : TE := fun σ H Q => ta σ H fun x H1 => tb σ H1 fun y H2 => r x y H2 fun z H3 => ∃ k, z = .bl k ∧
  (if k = true then tc σ H3 fun w' H4 => r' y w' H4 Q else Q (.bl false) H3)
theorem pt_chain {op op' : CmpOp} {r r' : R2} (ho : OpR X (compareOp op) r) (ho' : OpR X (compareOp op') r') (ha : PE X a ta) (hb : PE X b tb) (hc : PE X c tc)
    (hm : lastMarks [op, op'] [b, c] = false := by with_unfolding_all rfl) : PT X (.Compare a [op, op'] [b, c] pos) (tTest (tChain r r' ta tb tc)) := by
  intro pins s σ H Q I h
  refine isTrue_chain (thn (ha pins s σ H _ I h) fun v s1 ⟨x, H1, I1, r1, q1⟩ => test_link (thn (hb pins s1 σ H1 _ I1 q1) fun u s2 ⟨y, H2, I2, r2, q2⟩ =>
    thn (ho pins s2 σ H2 x y v u _ I2 r1 r2 q2) fun d s3 ⟨z, H3, I3, r3, k, e, q3⟩ => ?_)) hm
  subst e
  cases r3
  refine wpAny_truthy_bool ?_
  cases k with
  | false =>
    obtain ⟨k', e', q'⟩ := q3
    cases e'
    exact ite_ff ⟨H3, I3, q'⟩
  | true =>
    refine ite_tt (test_last (thn (hc pins s3 σ H3 _ I3 q3) fun w' s4 ⟨z', H4, I4, r4, q4⟩ => thn (ho' pins s4 σ H4 y z' u w' _ I4 r2 r4 q4) fun d' s5 ⟨z2, H5, I5, r5, k2, e2, q5⟩ => ?_))
    subst e2
    cases r5
    exact wpAny_truthy_bool ⟨H5, I5, q5⟩

theorem line63 : (sizeLine : Nat) < 2 ^ 63 := by rw [sizeLine_eq]; decide
theorem op_add_str : OpR X (binaryOp .Add) (fun x y H Q => ∃ i j, x = .str i ∧ y = .str j ∧ i.length + j.length ≤ sizeLine ∧ Q (.str (i ++ j)) H) := by
  intro pins s σ H x y v u Q I rx ry h
  obtain ⟨i, j, rfl, rfl, hz, q⟩ := h
  obtain ⟨t, rfl⟩ := rx
  obtain ⟨t', rfl⟩ := ry
  exact add_str (fun t' tk => ⟨.str (i ++ j), H, I.tok _, ⟨_, rfl⟩, q⟩) hz
theorem vals1 {x : V} {us : List Value} (r : Vals [x] us) : ∃ u, us = [u] ∧ RelV x u := by
  cases r with
  | cons r1 r2 => cases r2; exact ⟨_, rfl, r1⟩
theorem vals2 {x y : V} {us : List Value} (r : Vals [x, y] us) : ∃ u w', us = [u, w'] ∧ RelV x u ∧ RelV y w' := by
  cases r with
  | cons r1 r2 =>
    cases r2 with
    | cons r3 r4 => cases r4; exact ⟨_, _, rfl, r1, r3⟩
theorem call_int1 : CallR X (.type "int") (fun xs H Q => (∃ i, xs = [.int i] ∧ Q (.int i) H) ∨ ∃ k, xs = [.bl k] ∧ Q (.int (if k then 1 else 0)) H) := by
  intro pins s σ H xs us Q I r h
  rcases h with ⟨i, rfl, q⟩ | ⟨k, rfl, q⟩
  · obtain ⟨u, rfl, t, rfl⟩ := vals1 r
    exact call_int_int ⟨.int i, H, I, ⟨_, rfl⟩, q⟩
  · obtain ⟨u, rfl, r1⟩ := vals1 r
    cases r1
    exact call_int_bool ⟨.int (if k then 1 else 0), H, I.tok _, ⟨_, rfl⟩, q⟩
end
end L2

namespace L2
open PySem PySem.Spec PyProof.Rows

structure ObjM (h : Heap) (x dx C : Addr) (mA : Str → Option Value) : Prop where
  obj : h.get? x = some (PySem.W.instObj C dx)
  ns : h.Ns1 dx mA
  ne : dx ≠ x

theorem lookIn_ns {h : Heap} {dx : Addr} {mA : Str → Option Value} (n : h.Ns1 dx mA) : ∃ od, h.get? dx = some od ∧ ∀ name, PySem.W.lookIn name od = some (mA name) := by
  obtain ⟨o, es, ep, ho, hd, hk, _, hm⟩ := n
  refine ⟨o, ho, fun name => ?_⟩
  have e := hm name
  unfold nsFind findBy at e
  rw [← Array.find?_toList] at e
  unfold PySem.W.lookIn
  rw [hd]
  dsimp only
  split
  · rename_i y q
    rw [q] at e
    exact congrArg some e
  · rename_i q
    rw [q] at e
    have a : es.toList.any (·.refKey) = false := by
      rw [List.any_eq_false]
      intro y hy
      obtain ⟨z, t, hkey⟩ := hk y (Array.mem_toList_iff.mp hy)
      simp [DictEntry.refKey, hkey]
    have a' : ¬ es.toList.any (·.refKey) = true := by rw [a]; exact Bool.false_ne_true
    rw [if_neg a']
    exact congrArg some e

theorem ObjM.look {h : Heap} {x dx C : Addr} {mA : Str → Option Value} (I : ObjM h x dx C mA) : ∃ od, PySem.W.InstAt h x (PySem.W.instObj C dx) C (some od) ∧ ∀ name, PySem.W.lookIn name od = some (mA name) :=
  let ⟨od, ho, hl⟩ := lookIn_ns I.ns
  ⟨od, ⟨I.obj, rfl, rfl, ho⟩, hl⟩

section
variable {prog : Program} {w : World} {A : Around} {E : Value → Shared → Prop} {s : Shared} {K : PySem.W.Frag} {x dx C f : Addr} {mA : Str → Option Value} {name : Str} {v : Value}

end

theorem RelO.some_of {v : V} {o : Option Value} (r : RelO (some v) o) : ∃ u, o = some u ∧ RelV v u := by
  cases o with
  | none => exact (show False from r).elim
  | some u => exact ⟨u, rfl, r⟩
section
variable {P : Program} {w : World} {H H' : Hp} {h h' : Heap} {a C dx : Addr} {fs fs' : List (Str × V)}
theorem ins_get (hok : HOk P w H h) (e : H a = some (.ins C dx fs)) : ∃ mA, ObjM h a dx C mA ∧ (∀ f, RelO (fs.lookup f) (mA f)) ∧ PySem.Within mA (fs.map (·.1)) ∧ fs.length ≤ 1000 ∧ H dx = some (.own a) := by
  obtain ⟨d, z, ne, ob, mA, n, r, q⟩ := (show ObjOk P w H h a (.ins C dx fs) from hok a _ e)
  exact ⟨mA, ⟨ob, n, ne⟩, r, q, z, d⟩
end

structure Cls (K : PySem.W.Frag) (C : Addr) : Prop where
  pg : PySem.W.plainGet K C Str.empty = true
  hd : PySem.W.hasDictIn K C = true
  po : PySem.W.plainOver K C = true
  sa : PySem.W.findIn K (.ref C) "__setattr__" = some (some (.builtin "object.__setattr__"))
theorem Cls.get {K : PySem.W.Frag} {C : Addr} (c : Cls K C) (f : Str) : PySem.W.plainGet K C f = true := c.pg
section
variable {X : Cx} {pins : List (Addr × Obj)} {σ : St} {H : Hp} {s : Shared} {a C dx : Addr} {fs : List (Str × V)} {f : Str} {v : V} {A : Around} {E : Value → Shared → Prop}

end

section
variable {X : Cx} {o e value : Expr} {f : Str} {pos pos' tpos : Pos} {ta tv : TE}
end

section
variable {X : Cx} {pins : List (Addr × Obj)} {σ : St} {H : Hp} {s : Shared} {A : Around} {E : Value → Shared → Prop} {Q : Value → Shared → Prop} {c : Value} {b : Bool}
inductive TyOf (K : PySem.W.Frag) (H : Hp) : V → Value → Prop where
  | non : TyOf K H .non (.type "NoneType")
  | bl (x : Bool) : TyOf K H (.bl x) (.type "bool")
  | int (i : Int) : TyOf K H (.int i) (.type "int")
  | str (x : Str) : TyOf K H (.str x) (.type "str")
  | flt (x : UInt64) : TyOf K H (.flt x) (.type "float")
  | lst {a : Addr} {xs : List V} (e : H a = some (.lst xs)) : TyOf K H (.ref a) (.type "list")
  | frz {a : Addr} {o : Obj} {xs : List V} (e : H a = some (.frz o (.lst xs))) : TyOf K H (.ref a) (.type "list")
  | tup {a : Addr} {xs : List V} (e : H a = some (.tup xs)) : TyOf K H (.ref a) (.type "tuple")
  | dK {a : Addr} {kvs : List (Key × V)} (e : H a = some (.dK kvs)) : TyOf K H (.ref a) (.type "dict")
  | dT {a : Addr} {kvs : List (List Key × V)} (e : H a = some (.dT kvs)) : TyOf K H (.ref a) (.type "dict")
  | ins {a C dx : Addr} {fs : List (Str × V)} (e : H a = some (.ins C dx fs)) (cl : Cls K C) (ha : PySem.W.findIn K (.ref C) "__class__" = some (some (.builtin "object.__class__")))
      (hn : PySem.W.specialIn K (.builtin "object.__class__") "__get__" = some (some (.builtin "getset_descriptor.__get__"))) (htk : PySem.W.takesIn K (.builtin "object.__class__") = some true)
      (hm : PySem.W.mroIn K C (.type "object") = some true) : TyOf K H (.ref a) (.ref C)
theorem isinst_ok {x : V} {u t : Value} (I : Inv X pins σ H s) (rx : RelV x u) (ty : TyOf X.K H x t) (e : PySem.W.kitOne X.K t c = some b) (h : ∀ tk, Q (.bool b) { s with toks := tk }) :
    wpAny (model X.prog X.w) A (call (.builtin "isinstance") [u, c]) Q E s := by
  cases ty with
  | non => cases (show u = Value.none from rx); exact PySem.W.kia_one PySem.W.kitx_none I.kIn True.intro e (fun z => nomatch z) h
  | bl y => cases (show u = Value.bool y from rx); exact PySem.W.kia_one PySem.W.kitx_bool I.kIn True.intro e (fun z => nomatch z) h
  | int i => obtain ⟨t, q⟩ := (show ∃ t, u = Value.int i t from rx); cases q; exact PySem.W.kia_one PySem.W.kitx_int I.kIn True.intro e (fun z => nomatch z) h
  | str y => obtain ⟨t, q⟩ := (show ∃ t, u = Value.str y t from rx); cases q; exact PySem.W.kia_one PySem.W.kitx_str I.kIn True.intro e (fun z => nomatch z) h
  | flt y => obtain ⟨t, q⟩ := (show ∃ t, u = Value.float y t from rx); cases q; exact PySem.W.kia_one PySem.W.kitx_float I.kIn True.intro e (fun z => nomatch z) h
  | @lst a xs ea =>
    cases (show u = Value.ref a from rx)
    obtain ⟨_, _, n, _, h1⟩ := (show ObjOk X.prog X.w H s.heap a (.lst xs) from I.hok a _ ea)
    exact PySem.W.kia_one PySem.W.kitx_list I.kIn ⟨_, h1, rfl⟩ e (fun z => nomatch z) h
  | @frz a ob xs ea =>
    cases (show u = Value.ref a from rx)
    obtain ⟨_, _, _, n, _, h1⟩ := (show ObjOk X.prog X.w H s.heap a (.frz ob (.lst xs)) from I.hok a _ ea)
    exact PySem.W.kia_one PySem.W.kitx_list I.kIn ⟨_, h1, rfl⟩ e (fun z => nomatch z) h
  | @tup a xs ea =>
    cases (show u = Value.ref a from rx)
    obtain ⟨_, _, _, p⟩ := (show ObjOk X.prog X.w H s.heap a (.tup xs) from I.hok a _ ea)
    obtain ⟨o, h1, h2, _⟩ := p
    exact PySem.W.kia_one PySem.W.kitx_tuple I.kIn ⟨o, h1, h2⟩ e (fun z => nomatch z) h
  | @dK a kvs ea =>
    cases (show u = Value.ref a from rx)
    obtain ⟨_, _, vs, _, p⟩ := (show ObjOk X.prog X.w H s.heap a (.dK kvs) from I.hok a _ ea)
    obtain ⟨o, es, ep, h1, h2, _⟩ := p
    exact PySem.W.kia_one PySem.W.kitx_dict I.kIn ⟨o, h1, h2.1⟩ e (fun z => nomatch z) h
  | @dT a kvs ea =>
    cases (show u = Value.ref a from rx)
    obtain ⟨_, _, xs, _, o, es, ep, h1, h2, _⟩ := (show ObjOk X.prog X.w H s.heap a (.dT kvs) from I.hok a _ ea)
    exact PySem.W.kia_one PySem.W.kitx_dict I.kIn ⟨o, h1, h2.1⟩ e (fun z => nomatch z) h
  | @ins a C dx fs ea cl ha hn htk hm =>
    cases (show u = Value.ref a from rx)
    obtain ⟨mA, O, _⟩ := ins_get I.hok ea
    obtain ⟨od, J, _⟩ := O.look
    exact PySem.W.kia_one (PySem.W.kitx_own (cl.get _) cl.hd ha hn htk hm) I.kIn J e (fun z => nomatch z) h
end
end L2

namespace L2
open PySem PySem.Spec PyProof.Rows

structure Room (k : Nat) (A : Around) : Prop where
  hd : A.handled = none
  dp : A.depth + 3 * k + 5 < recursionLimit
  un : A.units + 16 * k + 200 < cLine
  gd : A.guards = some []
theorem Room.mono {j k : Nat} {A : Around} (r : Room k A) (h : j ≤ k) : Room j A := ⟨r.hd, by have := r.dp; omega, by have := r.un; omega, r.gd⟩
theorem Room.deeper {k : Nat} {A : Around} (r : Room (k + 1) A) (env : Env) : Room k (A.deeper env) :=
  ⟨r.hd, by have := r.dp; show A.depth + 1 + 3 * k + 5 < _; omega, by have := r.un; show A.units + 3 + 16 * k + 200 < _; omega, by first | exact r.gd | (show pushGuards _ A.guards = _; rw [r.gd]; rfl)⟩
theorem Room.depth {k : Nat} {A : Around} (r : Room k A) : A.depth < recursionLimit := by have := r.dp; omega
theorem Room.units {k : Nat} {A : Around} (r : Room k A) : A.units + 64 < cLine := by have := r.un; omega
def tNil : TA := fun _ H Q => Q [] H
def tCons (ta : TE) (tr : TA) : TA := fun σ H Q => ta σ H fun x H1 => tr σ H1 fun xs H2 => Q (x :: xs) H2
section
variable {X : Cx} {e : Expr} {es : List Expr} {te : TE} {t : TA} {pos : Pos}
theorem pa_nil : PA X [] tNil := fun _ _ _ _ H Q I h => Calls.spliced_nil ⟨[], H, I, .nil, h⟩
theorem pa_cons (ha : PE X e te) (hr : PA X es t) (hs : starEach (e :: es) X.env = (false, eval e X.env) :: starEach es X.env := by rfl) : PA X (e :: es) (tCons te t) := by
  intro pos pins s σ H Q I h
  rw [hs]
  show wpAny _ _ (spliced ((false, eval e X.env) :: backTo pos (starEach es X.env))) _ _ s
  refine Calls.spliced_cons (thn (ha pins s σ H _ I h) fun u s1 ⟨x, H1, I1, r1, q1⟩ => ?_)
  exact thn (hr pos pins s1 σ H1 _ I1 q1) fun us s2 ⟨xs, H2, I2, r2, q2⟩ => ⟨x :: xs, H2, I2, .cons r1 r2, q2⟩

def tTup (t : TA) : TE := fun σ H Q => t σ H fun xs H1 => xs.length ≤ sizeLine ∧ ∀ p, H1 p = none → Q (.ref p) (upd H1 p (.tup xs))
def tLst (t : TA) : TE := fun σ H Q => t σ H fun xs H1 => xs.length ≤ sizeLine ∧ ∀ p, H1 p = none → Q (.ref p) (upd H1 p (.lst xs))
theorem pe_tup {x1} (h : PA X es t) : PE X (.Tuple es x1 pos) (tTup t) := by
  intro pins s σ H Q I hq
  refine wpAny_Tuple_spliced (thn (h pos pins s σ H _ I hq) fun us s1 ⟨xs, H1, I1, r, z, q⟩ => ⟨by rw [← r.length]; exact z, ?_⟩)
  have hf : H1 s1.heap.objs.size = none := I1.hok.fresh (Nat.le_refl _)
  refine ⟨.ref s1.heap.objs.size, upd H1 s1.heap.objs.size (.tup xs), I1.laid (t' := s1.toks) (fun b u e => Heap.get?_push_of_some _ e) (Nat.le_refl _) ?_, rfl, q _ hf⟩
  exact ⟨z, us, r, ⟨_, Heap.get?_push_size _ rfl, rfl, _, rfl⟩⟩
theorem pe_lst (h : PA X es t) : PE X (.List es pos) (tLst t) := by
  intro pins s σ H Q I hq
  refine wpAny_List_spliced (thn (h pos pins s σ H _ I hq) fun us s1 ⟨xs, H1, I1, r, z, q⟩ => ⟨by rw [← r.length]; exact z, ?_⟩)
  have hf : H1 s1.heap.objs.size = none := I1.hok.fresh (Nat.le_refl _)
  refine ⟨.ref s1.heap.objs.size, upd H1 s1.heap.objs.size (.lst xs), I1.laid (t' := s1.toks) (fun b u e => Heap.get?_push_of_some _ e) (Nat.le_refl _) ?_, rfl, q _ hf⟩
  exact ⟨z, us, 0, r, Heap.get?_push_size _ rfl⟩
end

abbrev Sp := List V → Hp → VK → XK → Prop
abbrev CXT := List Env → Hp → Shared → XK → Value → Shared → Prop

structure Env0 (P : Program) (w : World) (K : PySem.W.Frag) (mg : Str → Option Value) (base : Heap) (A : Around) (outer : List Env) (s : Shared) (H : Hp) : Prop where
  frames : A.frames = some outer
  mod : Mod K mg base
  bs : ∀ b o, base.get? b = some o → s.heap.get? b = some o ∧ H b = none
  bsz : base.objs.size ≤ s.heap.objs.size
  funs : s.heap.FunFrames base outer
  frf : ∀ b ∈ frs outer, H b = none
  hok : HOk P w H s.heap
  bare : AllBare s.gens
def CE (outer : List Env) (P : Program) (w : World) (H : Hp) (s : Shared) (Q : VK) (u : Value) (s' : Shared) : Prop :=
  ∃ v H', s'.os = s.os ∧ AllBare s'.gens ∧ Un (frs outer) [] H H' s.heap s'.heap ∧ HOk P w H' s'.heap ∧ RelV v u ∧ Q v H'
def CR (CX : CXT) (outer : List Env) (P : Program) (w : World) (H : Hp) (s : Shared) (Q : VK) (E : XK) (r : Result) (s' : Shared) : Prop :=
  match r with
  | .ok (.ret u) => CE outer P w H s Q u s'
  | .ok _ => False
  | .error e => CX outer H s E e s'
structure FnOk (P : Program) (w : World) (K : PySem.W.Frag) (mg : Str → Option Value) (base : Heap) (CX : CXT) (k : Nat) (f : Addr) (fd : FuncData) (ps : List Str) (sp : Sp) : Prop where
  len : ∀ vs H Q E, sp vs H Q E → vs.length = ps.length
  run : ∀ (A : Around) (outer : List Env) (s : Shared) (H : Hp) (args : Args) (us : List Value) (vs : List V) (Q : VK) (E : XK), Room k A → Env0 P w K mg base A outer s H → BindsTo s fd args (ps.zip us) → Vals vs us → sp vs H Q E →
    codeAny (model P w) A (.call (.ref f) args) (CR CX outer P w H s Q E) s
theorem FnOk.mono {P : Program} {w : World} {K : PySem.W.Frag} {mg : Str → Option Value} {base : Heap} {CX : CXT} {j k : Nat} {f : Addr} {fd : FuncData} {ps : List Str} {sp : Sp} (F : FnOk P w K mg base CX j f fd ps sp) (h : j ≤ k) :
    FnOk P w K mg base CX k f fd ps sp := ⟨F.len, fun A outer s H args us vs Q E hr => F.run A outer s H args us vs Q E (hr.mono h)⟩
section
variable {X : Cx} {pins : List (Addr × Obj)} {σ : St} {H : Hp} {s s' : Shared}
theorem Inv.env0 (I : Inv X pins σ H s) : Env0 X.prog X.w X.K X.mg X.base X.A X.stack s H :=
  ⟨I.ok.frames, I.ok.mod, I.bs, Nat.le_trans I.ok.bsz I.sz, I.stack, I.stkFree, I.hok, I.bare⟩
theorem Inv.after {Q : VK} {u : Value} (I : Inv X pins σ H s) (h : CE X.stack X.prog X.w H s Q u s') : EP X pins σ Q u s' := by
  obtain ⟨v, H', os, bare, un, hok, r, q⟩ := h
  obtain ⟨hh, g, d, t, os'⟩ := s'
  obtain rfl : os' = s.os := os
  exact ⟨v, H', I.call (h' := hh) (g' := g) (d' := d) (t' := t) (ch := []) un hok bare (fun b z => absurd z (by simp)), r, q⟩
end

def tCall (sp : Sp) (dvs : List V) (E : XK) (t : TA) : TE := fun σ H Q => t σ H fun vs H1 => sp (vs ++ dvs) H1 Q E
def Binds (K : PySem.W.Frag) (fd : FuncData) (ps : List Str) (ds : List Value) : Prop :=
  ∀ (s : Shared) (us : List Value), K.In s.heap → (us ++ ds).length = ps.length → BindsTo s fd ⟨us, []⟩ (ps.zip (us ++ ds))
theorem Binds.all {K : PySem.W.Frag} {fd : FuncData} {ps : List Str} (h : ∀ us : List Value, us.length = ps.length → bindArgs fd ⟨us, []⟩ = pure (ps.zip us)) : Binds K fd ps [] := fun s us _ hl => by
  rw [List.append_nil] at hl ⊢
  exact .of_eq (h us hl)

def Passes (CX : CXT) (X : Cx) (E : XK) : Prop := ∀ (pins : List (Addr × Obj)) (σ : St) (H : Hp) (s : Shared) (e : Value) (s' : Shared), Inv X pins σ H s → CX X.stack H s E e s' → X.xe e s'

section
variable {X : Cx} {CX : CXT} {k : Nat} {f C : Addr} {fd : FuncData} {ps : List Str} {sp : Sp} {dvs : List V} {ds : List Value} {E : XK} {x m : Str} {p pos apos : Pos} {e o : Expr} {es : List Expr} {ta : TE} {t : TA}

theorem run_fn {pins : List (Addr × Obj)} {σ : St} {H : Hp} {s : Shared} {Q : VK} {us : List Value} {vs : List V} (F : FnOk X.prog X.w X.K X.mg X.base CX k f fd ps sp) (hr : Room k X.A) (hb : Binds X.K fd ps ds) (hd : Vals dvs ds) (hx : Passes CX X E)
    (I : Inv X pins σ H s) (r : Vals vs us) (h : sp (vs ++ dvs) H Q E) : wpAny (model X.prog X.w) X.A (call (.ref f) us) (EP X pins σ Q) X.xe s := by
  have r2 : Vals (vs ++ dvs) (us ++ ds) := r.append hd
  have hl : (us ++ ds).length = ps.length := by rw [← r2.length]; exact F.len _ _ _ _ h
  refine wpAny_call (codeAny_mono (F.run X.A X.stack s H ⟨us, []⟩ (us ++ ds) (vs ++ dvs) Q E hr I.env0 (hb s us I.kIn hl) r2 h) fun r s' hq => ?_)
  cases r with
  | error e => exact hx pins σ H s e s' I hq
  | ok fl =>
    cases fl with
    | ret u => exact I.after hq
    | next => exact False.elim hq
    | brk => exact False.elim hq
    | cont => exact False.elim hq

theorem pe_call (F : FnOk X.prog X.w X.K X.mg X.base CX k f fd ps sp) (hr : Room k X.A) (hg : Gl X x) (hm : X.mg x = some (.ref f)) (hk : PySem.W.keepIn X.K (.ref f) = true) (hb : Binds X.K fd ps ds) (hd : Vals dvs ds) (hx : Passes CX X E)
    (ha : PA X (e :: es) t) (hdb : (x == ("__debug__" : Str)) = false := by decide) (he : starEach (e :: es) X.env = (false, eval e X.env) :: starEach es X.env := by rfl) (hpl : (backTo pos (starEach es X.env)).any (·.1) = false := by rfl) :
    PE X (.Call (.Name x p) (e :: es) [] pos) (tCall sp dvs E t) := by
  intro pins s σ H Q I h
  refine wpAny_Call_Name_kw (ld_glob I hg hm ?_ hdb)
  refine PySem.W.callWith_K (h₀ := X.base) I.ok.mod.kin hk (thn (ha pos pins s σ H _ I h) fun us s1 ⟨vs, H1, I1, r, q⟩ => ⟨I1.kIn, ?_⟩) he hpl
  exact run_fn F hr hb hd hx I1 r q
end

section
variable {X : Cx} {CX : CXT} {k : Nat} {f C : Addr} {fd : FuncData} {ps ks : List Str} {sp : Sp} {E : XK} {x m : Str} {p pos apos kpos : Pos} {e o : Expr} {es : List Expr} {kws : List Keyword} {te ta : TE} {t tk : TA} {nm : Option Str}
variable {g : List Value → List Value → List Value} {gV : List V → List V → List V}
end

structure FnScope (N P : List Str) (sc : Scope) : Prop where
  kind : sc.kind = .function
  co : sc.isCoroutine = false
  gen : sc.isGenerator = false
  nd : N.Nodup
  pre : N.take P.length = P
  par : ∀ x ∈ P, sc.names.lookup x = some .local ∨ sc.names.lookup x = some .cell
  nofree : ∀ y ∈ sc.names, y.2 ≠ .free

theorem bindL_out {kindOf : Str → Option NameKind} {x : Str} : ∀ {binds : List (Str × Value)} {m : Str → Option Value}, (∀ v, (x, v) ∉ binds) → bindL kindOf binds m x = m x
  | [], _, _ => rfl
  | (n, v) :: r, m, h => by
    unfold bindL
    rw [bindL_out fun w hw => h w (List.mem_cons_of_mem _ hw)]
    split
    · have : x ≠ n := by rintro rfl; exact h v List.mem_cons_self
      simp [this]
    · rfl
theorem bindC_out {kindOf : Str → Option NameKind} {x : Str} : ∀ {binds : List (Str × Value)} {m : Str → Option Value}, (∀ v, (x, v) ∉ binds) → bindC kindOf binds m x = m x
  | [], _, _ => rfl
  | (n, v) :: r, m, h => by
    unfold bindC
    rw [bindC_out fun w hw => h w (List.mem_cons_of_mem _ hw)]
    split
    · rfl
    · have : x ≠ n := by rintro rfl; exact h v List.mem_cons_self
      simp [this]
theorem bindL_get {kindOf : Str → Option NameKind} {x : Str} {v : Value} : ∀ {P : List Str} {vs : List Value} {i : Nat} {m : Str → Option Value}, P.Nodup → P[i]? = some x → vs[i]? = some v → kindOf x = some .local →
    bindL kindOf (P.zip vs) m x = some v
  | [], _, _, _, _, h, _, _ => by simp at h
  | _ :: _, [], _, _, _, _, h, _ => by simp at h
  | p :: P, w :: vs, 0, m, nd, h1, h2, hk => by
    simp at h1 h2; subst h1; subst h2
    show bindL kindOf ((p, w) :: P.zip vs) m p = _
    unfold bindL
    rw [bindL_out fun v hv => (List.nodup_cons.mp nd).1 (List.of_mem_zip hv).1, if_pos hk]
    simp
  | p :: P, w :: vs, i + 1, m, nd, h1, h2, hk => by
    show bindL kindOf ((p, w) :: P.zip vs) m x = _
    unfold bindL
    exact bindL_get (i := i) (List.nodup_cons.mp nd).2 (by simpa using h1) (by simpa using h2) hk
theorem bindC_get {kindOf : Str → Option NameKind} {x : Str} {v : Value} : ∀ {P : List Str} {vs : List Value} {i : Nat} {m : Str → Option Value}, P.Nodup → P[i]? = some x → vs[i]? = some v → kindOf x ≠ some .local →
    bindC kindOf (P.zip vs) m x = some v
  | [], _, _, _, _, h, _, _ => by simp at h
  | _ :: _, [], _, _, _, _, h, _ => by simp at h
  | p :: P, w :: vs, 0, m, nd, h1, h2, hk => by
    simp at h1 h2; subst h1; subst h2
    show bindC kindOf ((p, w) :: P.zip vs) m p = _
    unfold bindC
    rw [bindC_out fun v hv => (List.nodup_cons.mp nd).1 (List.of_mem_zip hv).1, if_neg hk]
    simp
  | p :: P, w :: vs, i + 1, m, nd, h1, h2, hk => by
    show bindC kindOf ((p, w) :: P.zip vs) m x = _
    unfold bindC
    exact bindC_get (i := i) (List.nodup_cons.mp nd).2 (by simpa using h1) (by simpa using h2) hk

def start (N : List Str) (vs : List V) : St := vs.map some ++ List.replicate (N.length - vs.length) none

def cxOf (CX : CXT) (P : Program) (w : World) (K : PySem.W.Frag) (mg : Str → Option Value) (base : Heap) (N : List Str) (qual : Str) (scope : Scope) (f : Addr) (cd : Value) (A : Around) (outer : List Env) (s : Shared) (H : Hp) (E : XK) : Cx where
  prog := P
  w := w
  K := K
  mg := mg
  base := base
  A := A.deeper (envOfC qual scope s.heap.objs.size f cd)
  N := N
  s₀ := s
  H₀ := H
  env := envOfC qual scope s.heap.objs.size f cd
  outer := outer
  stack := envOfC qual scope s.heap.objs.size f cd :: outer
  ex := []
  calm := true
  fn := fun _ => true
  pn := []
  xe := fun e s' => wpAny (model P w) (A.deeper (envOfC qual scope s.heap.objs.size f cd)) (leaving (envOfC qual scope s.heap.objs.size f cd) e) (fun _ s'' => CX outer H s E e s'') (fun e' s'' => CX outer H s E e' s'') s'

theorem cell_has {sc : Scope} {n : Nat} {x : Str} (h : sc.names.lookup x = some .cell) : ∃ c, (cellsFrom n sc.names []).lookup x = some c := by
  have q := PySem.W.cellsFrom_some sc.names n [] (.inl h)
  exact Option.isSome_iff_exists.mp q

theorem inv_start {CX : CXT} {P : Program} {w : World} {K : PySem.W.Frag} {mg : Str → Option Value} {base : Heap} {N ps : List Str} {qual : Str} {scope : Scope} {f : Addr} {cd : Value} {A : Around} {outer : List Env} {s s1 : Shared} {H : Hp} {E : XK} {us : List Value} {vs : List V}
    (S : FnScope N ps scope) (hd : A.handled = none) (e0 : Env0 P w K mg base A outer s H) (hl : vs.length = ps.length) (r : Vals vs us)
    (x : InCallC s s.heap.objs.size (bindL (envOfC qual scope s.heap.objs.size f cd).kindOf (ps.zip us) fun _ => none) (cellsFrom (s.heap.objs.size + 1) scope.names []) (bindC (envOfC qual scope s.heap.objs.size f cd).kindOf (ps.zip us) fun _ => none) s1) :
    Inv (cxOf CX P w K mg base N qual scope f cd A outer s H E) [] (start N vs) H s1 := by
  have hpl : ps.length ≤ N.length := by have := congrArg List.length S.pre; rw [List.length_take] at this; omega
  obtain ⟨h1, tk, rfl, hk⟩ := x.done
  have noA : ∀ b : Addr, b ∉ (cxOf CX P w K mg base N qual scope f cd A outer s H E).ex := fun b z => absurd (show b ∈ ([] : List Addr) from z) (by simp)
  refine ⟨⟨e0.mod, S.kind, rfl, rfl, Nat.le_refl _, fun y z c h1 h2 => ?_, fun y hy => ?_, fun y c _ h => ?_, fun _ => hd, Around.frames_deeper e0.frames, .inr ⟨rfl, rfl⟩, fun b z => absurd z (noA b), e0.bs, e0.bsz, fun b _ _ => noA b, fun b z => absurd z (noA b), e0.funs, e0.frf⟩,
    rfl, e0.bare, Un.kept hk, ⟨_, x.toInCall.ns, fun i y v h1 h2 h3 => ?_⟩, fun y c h => ⟨_, x.cell y c h⟩, e0.hok.fresh (Nat.le_refl _), fun y c h => ?_, fun p hp => absurd (show p ∈ ([] : List (Addr × Obj)) from hp) (by simp), e0.hok.kept hk, ?_⟩
  · exact name_of_addr x.apart (PySem.mem_of_lookup h1) (PySem.mem_of_lookup h2)
  · have hy : scope.names.lookup y = some .cell ∨ scope.names.lookup y = some .free := hy
    rcases hy with hy | hy
    · exact cell_has hy
    · exact absurd rfl (S.nofree _ (PySem.mem_of_lookup hy))
  · exact Nat.le_of_lt (x.above y c (PySem.mem_of_lookup h))
  · have hi : i < vs.length := by
      unfold start at h2
      by_cases hi : i < vs.length
      · exact hi
      · rw [List.getElem?_append_right (by simpa using hi)] at h2
        rw [List.getElem?_replicate] at h2
        split at h2 <;> cases h2
    have ha : vs[i]? = some v := by
      unfold start at h2
      rw [List.getElem?_append_left (by simpa using hi), List.getElem?_map] at h2
      cases e : vs[i]? with
      | none => rw [e] at h2; cases h2
      | some a => rw [e] at h2; cases h2; rfl
    obtain ⟨u, hu, rv⟩ := r.get ha
    have hp : ps[i]? = some y := by
      rw [← S.pre, List.getElem?_take_of_lt (by omega)]; exact h1
    have ndP : ps.Nodup := by rw [← S.pre]; exact S.nd.sublist (List.take_sublist _ _)
    refine ⟨u, rv, ?_⟩
    rcases S.par y (List.mem_of_getElem? hp) with k | k
    · exact .inl ⟨k, bindL_get ndP hp hu k⟩
    · obtain ⟨c, e⟩ := cell_has (n := s.heap.objs.size + 1) k
      refine .inr ⟨.inl k, c, e, ?_⟩
      have q := x.cell y c e
      rw [bindC_get ndP hp hu (by show scope.names.lookup y ≠ _; rw [k]; decide)] at q
      exact q
  · exact e0.hok.fresh (Nat.le_of_lt (x.above y c (PySem.mem_of_lookup h)))
  · unfold start
    show _ = N.length
    rw [List.length_append, List.length_map, List.length_replicate]
    omega

theorem fn_of {CX : CXT} {P : Program} {w : World} {K : PySem.W.Frag} {mg : Str → Option Value} {base : Heap} {k : Nat} {f : Addr} {name qual : Str} {params : Arguments} {body : List Stmt} {scope : Scope} {dV kV doc pm cdv ct oc : Value} {an od : Option Addr}
    {osl : Array (Option Value)} {N ps : List Str} {sp : Sp} (lk : K.lookup f = some ⟨oc, od, .func (PySem.W.fnOf name qual params body scope dV kV doc pm an cdv ct), osl⟩) (hcd : PySem.W.codeIn K cdv qual = true) (S : FnScope N ps scope)
    (len : ∀ vs H Q E, sp vs H Q E → vs.length = ps.length)
    (hbody : ∀ (A : Around) (outer : List Env) (s : Shared) (H : Hp) (vs : List V) (Q : VK) (E : XK), Room k (A.deeper (envOfC qual scope s.heap.objs.size f cdv)) → sp vs H Q E →
      ∃ t, PSs (cxOf CX P w K mg base N qual scope f cdv A outer s H E) body t ∧ t { nx := fun _ H' => Q .non H', rt := Q } (start N vs) H) :
    FnOk P w K mg base CX (k + 1) f (PySem.W.fnOf name qual params body scope dV kV doc pm an cdv ct) ps sp := by
  refine ⟨len, fun A outer s H args us vs Q E hr e0 hb r hsp => ?_⟩
  have hl := len _ _ _ _ hsp
  have KX : K.In s.heap := e0.mod.kin.keeps fun b o e => (e0.bs b o e).1
  have lim : s.heap.NoLimit := e0.mod.nolimit.keeps fun b o e => (e0.bs b o e).1
  have hkind : ∀ y ∈ ps.zip us, scope.names.lookup y.1 = some .local ∨ (scope.names.lookup y.1 = some .cell ∧ ((cellsFrom (s.heap.objs.size + 1) scope.names []).lookup y.1).isSome = true) := fun ⟨n, v⟩ hy => by
    rcases S.par n (List.of_mem_zip hy).1 with q | q
    · exact .inl q
    · exact .inr ⟨q, PySem.W.cellsFrom_some _ _ _ (.inl q)⟩
  refine codeAny_call_function hr.depth (KX _ _ lk) rfl S.co S.gen rfl (PySem.W.codeRec_of KX hcd) (hb _ _ _ _ ?_)
  refine wpAny_newFunctionEnv_cells S.kind hkind fun env he s1 x => ?_
  subst he
  refine ⟨lim.keeps x.toInCall.keep, codeAny_func ?_⟩
  obtain ⟨t, ht, hq⟩ := hbody A outer s H vs Q E (hr.deeper _) hsp
  have I : Inv (cxOf CX P w K mg base N qual scope f cdv A outer s H E) [] (start N vs) H s1 := inv_start S hr.hd e0 hl r x
  refine wpAny_mono (ht [] s1 (start N vs) H _ I hq) (fun fl s' hs => ?_) fun e s' hs => hs
  have fin : ∀ {σ' : St} {H' : Hp} {v : V} {u : Value}, Inv (cxOf CX P w K mg base N qual scope f cdv A outer s H E) [] σ' H' s' → RelV v u → Q v H' → CE outer P w H s Q u s' :=
    fun {σ' H' v u} J rv q => ⟨v, H', J.os, J.bare, J.base, J.hok, rv, q⟩
  cases fl with
  | ret u =>
    obtain ⟨v, σ', H', J, rv, q⟩ := hs
    exact fin J rv q
  | next =>
    obtain ⟨σ', H', J, q⟩ := hs
    exact fin (v := V.non) (u := Value.none) J rfl q
  | brk =>
    obtain ⟨_, _, _, q⟩ := hs
    exact False.elim q
  | cont =>
    obtain ⟨_, _, _, q⟩ := hs
    exact False.elim q
end L2

namespace L2
open PySem PySem.Spec PyProof.Rows
section
variable {X : Cx} {x : Str} {p pos : Pos} {e : Expr} {es : List Expr} {t : TA} {id T : String} {r : List V → Hp → VK → Prop}

def tCB (r : List V → Hp → VK → Prop) (t : TA) : TE := fun σ H Q => t σ H fun vs H1 => r vs H1 Q
theorem pe_callB (hc : CallR X (.builtin id) r) (hg : Gl X x) (hm : X.mg x = none) (hv : bootBuiltins x = some (.builtin id)) (ha : PA X (e :: es) t) (hn : x ≠ "__name__" := by decide) (hdb : (x == ("__debug__" : Str)) = false := by decide)
    (he : starEach (e :: es) X.env = (false, eval e X.env) :: starEach es X.env := by rfl) (hpl : (backTo pos (starEach es X.env)).any (·.1) = false := by rfl) : PE X (.Call (.Name x p) (e :: es) [] pos) (tCB r t) := by
  intro pins s σ H Q I h
  refine wpAny_Call_Name_kw (ld_blt I hg hm hv ?_ hn hdb)
  exact PyProof.Rows.callWith_builtin1 (thn (ha pos pins s σ H _ I h) fun us s1 ⟨vs, H1, I1, r1, q1⟩ => hc pins s1 σ H1 vs us Q I1 r1 q1) he hpl
theorem pe_callTy (hc : CallR X (.type T) r) (hg : Gl X x) (hm : X.mg x = none) (hv : bootBuiltins x = some (.type T)) (ha : PA X (e :: es) t) (hn : x ≠ "__name__" := by decide) (hdb : (x == ("__debug__" : Str)) = false := by decide)
    (he : starEach (e :: es) X.env = (false, eval e X.env) :: starEach es X.env := by rfl) (hpl : (backTo pos (starEach es X.env)).any (·.1) = false := by rfl) : PE X (.Call (.Name x p) (e :: es) [] pos) (tCB r t) := by
  intro pins s σ H Q I h
  refine wpAny_Call_Name_kw (ld_blt I hg hm hv ?_ hn hdb)
  exact PyProof.Rows.callWith_type1 (thn (ha pos pins s σ H _ I h) fun us s1 ⟨vs, H1, I1, r1, q1⟩ => hc pins s1 σ H1 vs us Q I1 r1 q1) he hpl
end
end L2

namespace HT
open PySem PyProof.Rows

section
open PySem.SeqAt
open PySem.AutoSeq1 (wpAny_loadPart')
open PySem.MeetsSeq PySem.MeetsSeq2 PySem.MeetsSeq3

end

section
variable {prog : Program} {w : World} {A : Around} {E : Value → Shared → Prop} {s : Shared}

theorem cat_tup {t b : Addr} {vs ws : List Value} {Q : Value → Shared → Prop} (ht : IsTup s.heap t vs.toArray) (hb : IsTup s.heap b ws.toArray) (hv : vs ≠ [])
    (h1 : ws = [] → Q (.ref t) s) (h2 : ws ≠ [] → Q (.ref s.heap.objs.size) { s with heap := s.heap.push { cls := .type "tuple", data := .seq (vs ++ ws).toArray } })
    (hsz : vs.length + ws.length ≤ sizeLine) : wpAny (model prog w) A (binaryOp .Add (.ref t) (.ref b)) Q E s := by
  obtain ⟨⟨cls, dd, data, sl⟩, ho, hc, n, hd⟩ := id ht
  obtain ⟨⟨cls2, dd2, data2, sl2⟩, ho2, hc2, n2, hd2⟩ := id hb
  simp only at hc hd hc2 hd2
  subst hc hd hc2 hd2
  have e : vs.toArray ++ ws.toArray = (vs ++ ws).toArray := by simp
  by_cases hw : ws = []
  · exact concat_meets ⟨_, ho, rfl⟩ ⟨_, ho2, rfl⟩ noFill_tuple_add seq_tuple_add PySem.F.slot_tuple_add PySem.F.entry_tuple_add (PySem.F.args_tuple_add_2 _ _)
      (tuple_addW1 t b vs.toArray ws.toArray n n2 dd dd2 sl sl2 (by simpa using hv) (by simp [hw])) ⟨ho, ho2, h1 hw⟩
  · refine concat_meets ⟨_, ho, rfl⟩ ⟨_, ho2, rfl⟩ noFill_tuple_add seq_tuple_add PySem.F.slot_tuple_add PySem.F.entry_tuple_add (PySem.F.args_tuple_add_2 _ _)
      (tuple_addW2 t b vs.toArray ws.toArray n n2 dd dd2 sl sl2 (by simpa using hv) (by simpa using hw) (by rw [List.size_toArray, List.size_toArray]; exact hsz)) ⟨ho, ho2, ?_⟩
    rw [e]
    exact h2 hw

def sIx (n d : Nat) : Option Int → Nat
  | none => d
  | some v => if v < 0 then (v + (n : Int)).toNat else min v.toNat n
theorem sIx_none (n d : Nat) : sIx n d none = d := rfl
theorem sIx_nat (n d k : Nat) : sIx n d (some (k : Int)) = min k n := by
  show (if (k : Int) < 0 then ((k : Int) + (n : Int)).toNat else min (k : Int).toNat n) = min k n
  rw [if_neg (by omega), Int.toNat_natCast]
theorem sIx_le (n d : Nat) (hd : d ≤ n) (o : Option Int) : sIx n d o ≤ n := by
  cases o with
  | none => exact hd
  | some v =>
    show (if v < 0 then (v + (n : Int)).toNat else min v.toNat n) ≤ n
    by_cases hv : v < 0
    · rw [if_pos hv]; omega
    · rw [if_neg hv]; exact Nat.min_le_right _ _
theorem clip_eq (v : Int) (n d : Nat) : (if v < 0 then max (v + (n : Int)) 0 else min v (n : Int)) = ((sIx n d (some v) : Nat) : Int) := by
  show (if v < 0 then max (v + (n : Int)) 0 else min v (n : Int)) = (((if v < 0 then (v + (n : Int)).toNat else min v.toNat n) : Nat) : Int)
  by_cases hv : v < 0
  · simp only [if_pos hv]; omega
  · simp only [if_neg hv]; omega
theorem adjust_gen (lo hi : Option Int) (n : Nat) : Builtin.Slice.sliceAdjust lo hi 1 (n : Int) = (((sIx n 0 lo : Nat) : Int), ((sIx n n hi : Nat) : Int)) := by
  have h1 : ¬ ((1 : Int) < 0) := by omega
  unfold Builtin.Slice.sliceAdjust
  simp only [h1, if_false]
  refine Prod.ext ?_ ?_
  · cases lo with
    | none => rfl
    | some v => exact clip_eq v n 0
  · cases hi with
    | none => rfl
    | some v => exact clip_eq v n n
theorem places_gen (i j : Nat) : Builtin.Slice.slicePlaces (i : Int) (j : Int) 1 = j - i := by
  unfold Builtin.Slice.slicePlaces
  have h1 : (1 : Int) > 0 := by omega
  simp only [h1, if_true, Int.ediv_one]
  split <;> omega
theorem slicePart_ {v : Value} {o : Option Int} {Q : Option Int → Shared → Prop} (p : IsPart v o) (h : Q o s) : wpAny (model prog w) A (Builtin.Slice.slicePartIndex v) Q E s := by
  cases p with
  | none => exact slicePart_none h
  | int i t => exact slicePart_int h
theorem sliceApplied_gen {sl : Addr} {vl vu : Value} {lo hi : Option Int} {n : Nat} {Q : Int × Int × Nat → Shared → Prop} (hs : s.heap.IsSliceOf sl vl vu .none) (pl : IsPart vl lo) (pu : IsPart vu hi)
    (h : Q (((sIx n 0 lo : Nat) : Int), 1, sIx n n hi - sIx n 0 lo) s) : wpAny (model prog w) A (Builtin.Slice.sliceApplied (.ref sl) (pure (n : Int))) Q E s := by
  obtain ⟨os, hos, hcs, hds⟩ := id hs
  unfold Builtin.Slice.sliceApplied Builtin.Slice.sliceFields
  refine wpAny_bind (wpAny_bind (wpAny_field hos hds (x := vl) rfl (wpAny_bind (wpAny_field hos hds (x := vu) rfl (wpAny_bind (wpAny_field hos hds (x := .none) rfl (wpAny_pure ?_)))))))
  refine wpAny_bind (slicePart_none ?_)
  show wpAny _ _ (if ((1 : Int) == 0) = true then _ else _) _ _ s
  rw [if_neg (by decide)]
  refine wpAny_bind (slicePart_ pl (wpAny_bind (slicePart_ pu (wpAny_bind (wpAny_pure ?_)))))
  show wpAny _ _ (match Builtin.Slice.sliceAdjust lo hi 1 (n : Int) with | (lo, hi) => pure (lo, (1 : Int), Builtin.Slice.slicePlaces lo hi 1)) _ _ s
  rw [adjust_gen lo hi n]
  show wpAny _ _ (pure (((sIx n 0 lo : Nat) : Int), (1 : Int), Builtin.Slice.slicePlaces ((sIx n 0 lo : Nat) : Int) ((sIx n n hi : Nat) : Int) 1)) _ _ s
  rw [places_gen]
  exact wpAny_pure h
theorem pick_gen (xs : Array Value) (i k : Nat) : ((List.range k).filterMap fun (m : Nat) => xs[((i : Int) + (m : Int) * 1).toNat]?).toArray = ((xs.toList.drop i).take k).toArray := by
  have e : (fun (m : Nat) => xs[((i : Int) + (m : Int) * 1).toNat]?) = fun m => xs[i + m]? := by
    funext m
    have : ((i : Int) + (m : Int) * 1).toNat = i + m := by omega
    rw [this]
  rw [e]
  have := pick_run xs i k
  rw [List.filterMap_map] at this
  have e2 : ((fun x => xs[x]?) ∘ fun x => i + x) = fun m => xs[i + m]? := rfl
  rw [e2] at this
  rw [this]

theorem getItem_tuple_cut {t sl : Addr} {items : Array Value} {vl vu : Value} {lo hi : Option Int} {Q : Value → Shared → Prop} (ht : IsTup s.heap t items) (hs : s.heap.IsSliceOf sl vl vu .none) (pl : IsPart vl lo) (pu : IsPart vu hi)
    (hw : ¬ (sIx items.size 0 lo = 0 ∧ sIx items.size items.size hi = items.size))
    (h : Q (.ref s.heap.objs.size) { s with heap := s.heap.push { cls := .type "tuple", data := .seq ((items.toList.drop (sIx items.size 0 lo)).take (sIx items.size items.size hi - sIx items.size 0 lo)).toArray } })
    (hsz : items.size ≤ sizeLine) : wpAny (model prog w) A (getItem (.ref t) (.ref sl)) Q E s := by
  have htake : sizeOk (.seq ((items.toList.drop (sIx items.size 0 lo)).take (sIx items.size items.size hi - sIx items.size 0 lo)).toArray) := by
    show ((items.toList.drop (sIx items.size 0 lo)).take (sIx items.size items.size hi - sIx items.size 0 lo)).toArray.size ≤ sizeLine
    rw [List.size_toArray, List.length_take, List.length_drop, Array.length_toList]
    omega
  have hj : sIx items.size items.size hi ≤ items.size := sIx_le _ _ (Nat.le_refl _) hi
  obtain ⟨os, hos, hcs, hds⟩ := id hs
  have hTs : s.TypeIs (.ref sl) "slice" := ⟨os, hos, hcs⟩
  unfold getItem
  try with_reducible refine wpAny_holding ?_
  first | refine wpAny_bind (wpAny_pure ?_) | skip
  refine wpAny_bind (wpAny_sequenceKey ht.typeIs (by decide) ?_)
  refine wpAny_bind (wpAny_callSpecial?_slot (name := Str.ofString "__getitem__") ht.typeIs PyProof.Rows.slot_tuple_getitem
    (wpAny_call_entry PyProof.Rows.slot_tuple_getitem ht.typeIs entry_tuple_getitem ?_ (args_tuple_getitem _ _)))
  show wpAny _ _ (Builtin.Tuple.tupleItemsOf (.ref t) >>= _) _ _ s
  refine wpAny_bind (tupleItemsOf_ ht ?_)
  refine wpAny_bind (wpAny_typeOf hTs ?_)
  rw [if_pos (by decide)]
  refine wpAny_bind (sliceApplied_gen hs pl pu ?_)
  have hno : ¬ ((((sIx items.size 0 lo : Nat) : Int) == 0 && (1 : Int) == 1 && (sIx items.size items.size hi - sIx items.size 0 lo) == items.size) = true) := by
    intro q
    rw [Bool.and_eq_true, Bool.and_eq_true] at q
    have q1 : ((sIx items.size 0 lo : Nat) : Int) = 0 := eq_of_beq q.1.1
    have q2 : sIx items.size items.size hi - sIx items.size 0 lo = items.size := eq_of_beq q.2
    exact hw ⟨by omega, by omega⟩
  show wpAny _ _ (if (((sIx items.size 0 lo : Nat) : Int) == 0 && (1 : Int) == 1 && (sIx items.size items.size hi - sIx items.size 0 lo) == items.size) = true then _ else _) _ _ s
  rw [if_neg hno, pick_gen]
  first
    | exact wpAny_bind (m := Builtin.Tuple.tupleExact _) (wpAny_newObj_type (wpAny_pure ⟨_, rfl, wpAny_pure h⟩) htake)
    | exact wpAny_bind (m := Builtin.Tuple.tupleExact _) (wpAny_newObj_type (wpAny_bind (wpAny_pure (wpAny_pure ⟨_, rfl, wpAny_pure h⟩))) htake)
    | exact wpAny_bind (wpAny_bind (m := Builtin.Tuple.tupleExact _) (wpAny_newObj_type (wpAny_pure (wpAny_pure ⟨_, rfl, wpAny_pure h⟩)) htake))
    | exact wpAny_bind (wpAny_bind (m := Builtin.Tuple.tupleExact _) (wpAny_newObj_type (wpAny_pure ⟨_, rfl, wpAny_pure h⟩) htake))
end
end HT

namespace L2
open PySem PySem.Spec PyProof.Rows

abbrev TO := St → Hp → (Option Int → Hp → Prop) → Prop
def PO (X : Cx) (e : Option Expr) (t : TO) : Prop :=
  ∀ (pins : List (Addr × Obj)) (s : Shared) (σ : St) (H : Hp) (Q : Option Int → Hp → Prop), Inv X pins σ H s → t σ H Q →
    wpAny (model X.prog X.w) X.A (evalPart e X.env) (fun u s' => ∃ o H', Inv X pins σ H' s' ∧ IsPart u o ∧ Q o H') X.xe s
def tNoPart : TO := fun _ H Q => Q none H
def tPart (t : TE) : TO := fun σ H Q => t σ H fun x H1 => ∃ i, x = .int i ∧ Q (some i) H1

section
variable {X : Cx} {e : Expr} {te : TE} {lo hi : Option Expr} {tl th : TO} {pos p2 : Pos}

theorem po_none : PO X none tNoPart := by
  intro pins s σ H Q I h
  rw [evalPart_none]
  exact wpAny_pure ⟨none, H, I, .none, h⟩
theorem po_some (h : PE X e te) : PO X (some e) (tPart te) := by
  intro pins s σ H Q I hw
  rw [evalPart_some]
  refine thn (h pins s σ H _ I hw) fun u s1 ⟨x, H1, I1, r1, q1⟩ => ?_
  obtain ⟨i, rfl, q⟩ := q1
  obtain ⟨t, rfl⟩ := r1
  exact ⟨some i, H1, I1, .int i t, q⟩

def SlR (X : Cx) (r : V → Option Int → Option Int → Hp → VK → Prop) : Prop :=
  ∀ (pins : List (Addr × Obj)) (s : Shared) (σ : St) (H : Hp) (x : V) (v vl vu : Value) (lo hi : Option Int) (sl : Addr) (Q : VK), Inv X pins σ H s → RelV x v → s.heap.IsSliceOf sl vl vu .none → IsPart vl lo → IsPart vu hi → r x lo hi H Q →
    ∃ T id, typeLookup (.type T) "__getitem__" = pure (some (.builtin id)) ∧ s.TypeIs v T ∧ wpAny (model X.prog X.w) X.A (getItem v (.ref sl)) (EP X pins σ Q) X.xe s
def tSl (r : V → Option Int → Option Int → Hp → VK → Prop) (te : TE) (tl th : TO) : TE := fun σ H Q => te σ H fun x H1 => tl σ H1 fun l H2 => th σ H2 fun u H3 => r x l u H3 Q
theorem pe_slice {r : V → Option Int → Option Int → Hp → VK → Prop} (hr : SlR X r) (he : PE X e te) (hl : PO X lo tl) (hu : PO X hi th) : PE X (.Subscript e (.Slice lo hi none p2) pos) (tSl r te tl th) := by
  intro pins s σ H Q I h
  refine Subscript_ (thn (he pins s σ H _ I h) fun v s1 ⟨x, H1, I1, r1, q1⟩ => ?_)
  refine wpAny_Slice (thn (hl pins s1 σ H1 _ I1 q1) fun vl s2 ⟨l, H2, I2, pl, q2⟩ => thn (hu pins s2 σ H2 _ I2 q2) fun vu s3 ⟨u, H3, I3, pu, q3⟩ => ?_)
  rw [evalPart_none]
  refine wpAny_pure ?_
  have I4 : Inv X pins σ H3 { s3 with heap := s3.heap.push { cls := .type "slice", data := .fields #[vl, vu, .none] } } := I3.kept (t' := s3.toks) fun b ob q => Heap.get?_push_of_some _ q
  obtain ⟨T, id, hT, ht, hg⟩ := hr pins { s3 with heap := s3.heap.push { cls := .type "slice", data := .fields #[vl, vu, .none] } } σ H3 x v vl vu l u s3.heap.objs.size Q I4 r1 (Heap.IsSliceOf.new ..) pl pu q3
  show wpAny (model X.prog X.w) X.A (subscriptTail e (.Slice lo hi none p2) v (.ref s3.heap.objs.size)) (EP X pins σ Q) X.xe { s3 with heap := s3.heap.push { cls := .type "slice", data := .fields #[vl, vu, .none] } }
  exact tail_any (ops := [.ref s3.heap.objs.size, v]) ht hT hg (by with_unfolding_all rfl)

def cutV (xs : List V) (lo hi : Option Int) : List V := (xs.drop (HT.sIx xs.length 0 lo)).take (HT.sIx xs.length xs.length hi - HT.sIx xs.length 0 lo)
theorem cutV_length (xs : List V) (lo hi : Option Int) : (cutV xs lo hi).length ≤ xs.length := by
  unfold cutV
  rw [List.length_take, List.length_drop]
  omega
def rSlT (K : PySem.W.Frag) : V → Option Int → Option Int → Hp → VK → Prop := fun x lo hi H Q => ∃ a xs, x = .ref a ∧ SqT K H a xs ∧
  ¬ (HT.sIx xs.length 0 lo = 0 ∧ HT.sIx xs.length xs.length hi = xs.length) ∧ ∀ p, H p = none → Q (.ref p) (upd H p (.tup (cutV xs lo hi)))
theorem sl_tup : SlR X (rSlT X.K) := by
  intro pins s σ H x v vl vu lo hi sl Q I rx hs pl pu h
  obtain ⟨a, xs, rfl, hx, hw, q⟩ := h
  cases rx
  obtain ⟨its, r, ht, hz⟩ := I.tuple hx
  have hlen : its.toArray.size = xs.length := by rw [List.size_toArray]; exact r.length.symm
  refine ⟨"tuple", _, PyProof.Rows.slot_tuple_getitem.lookup, ht.typeIs, ?_⟩
  refine HT.getItem_tuple_cut ht hs pl pu (by rw [hlen]; exact hw) ?_ (by rw [hlen]; exact hz)
  rw [hlen]
  refine ⟨.ref s.heap.objs.size, _, I.laid (t' := s.toks) (o := .tup (cutV xs lo hi)) (fun b ob q => Heap.get?_push_of_some _ q) (Nat.le_refl _) ?_, rfl, q _ (I.hok.fresh (Nat.le_refl _))⟩
  exact ⟨Nat.le_trans (cutV_length xs lo hi) hz, _, (r.drop (HT.sIx xs.length 0 lo)).take (HT.sIx xs.length xs.length hi - HT.sIx xs.length 0 lo), IsTup.new _ _⟩

def rCatT (K : PySem.W.Frag) : R2 := fun x y H Q => ∃ a b xs ys, x = .ref a ∧ y = .ref b ∧ SqT K H a xs ∧ SqT K H b ys ∧ xs ≠ [] ∧ xs.length + ys.length ≤ sizeLine ∧
  (ys = [] → Q (.ref a) H) ∧ (ys ≠ [] → ∀ p, H p = none → Q (.ref p) (upd H p (.tup (xs ++ ys))))
theorem Vals.nil_iff {xs : List V} {us : List Value} (r : Vals xs us) : us = [] ↔ xs = [] := by
  cases r with
  | nil => simp
  | cons _ _ => simp
theorem op_catT : OpR X (binaryOp .Add) (rCatT X.K) := by
  intro pins s σ H x y v u Q I rx ry h
  obtain ⟨a, b, xs, ys, rfl, rfl, ha, hb, hx, hz, q1, q2⟩ := h
  cases rx
  cases ry
  obtain ⟨its, r1, p1, _⟩ := I.tuple ha
  obtain ⟨its2, r2, p2, _⟩ := I.tuple hb
  refine HT.cat_tup p1 p2 (fun z => hx (r1.nil_iff.mp z)) (fun z => ⟨.ref a, H, I, rfl, q1 (r2.nil_iff.mp z)⟩) (fun z => ?_) (by rw [← r1.length, ← r2.length]; exact hz)
  refine ⟨.ref s.heap.objs.size, _, I.laid (t' := s.toks) (o := .tup (xs ++ ys)) (fun b ob q => Heap.get?_push_of_some _ q) (Nat.le_refl _) ?_, rfl, q2 (fun w => z (r2.nil_iff.mpr w)) _ (I.hok.fresh (Nat.le_refl _))⟩
  exact ⟨by rw [List.length_append]; exact hz, _, r1.append r2, IsTup.new _ _⟩
end
end L2

namespace L2
open PySem PySem.Spec PyProof.Rows

def ixN (n : Nat) (i : Int) : Option Nat := if 0 ≤ i then (if i < n then some i.toNat else none) else if -(n : Int) ≤ i then some (i + n).toNat else none
def atI {α : Type} (xs : List α) (i : Int) : Option α := (ixN xs.length i).bind fun j => xs[j]?
theorem ixN_seq {n : Nat} {i : Int} {j : Nat} (h : ixN n i = some j) : seqIndex? i n = some j ∧ j < n ∧ -(n : Int) ≤ i ∧ i < n := by
  unfold ixN at h
  by_cases h0 : 0 ≤ i
  · rw [if_pos h0] at h
    by_cases h1 : i < n
    · rw [if_pos h1] at h
      have e : i.toNat = j := Option.some.inj h
      exact ⟨by rw [seqIndex_of h0 h1, e], by omega, by omega, h1⟩
    · rw [if_neg h1] at h; cases h
  · rw [if_neg h0] at h
    by_cases h1 : -(n : Int) ≤ i
    · rw [if_pos h1] at h
      have e : (i + n).toNat = j := Option.some.inj h
      exact ⟨by rw [seqIndex_neg (by omega) h1, e], by omega, h1, by omega⟩
    · rw [if_neg h1] at h; cases h
theorem atI_get {α : Type} {xs : List α} {i : Int} {v : α} (h : atI xs i = some v) : ∃ j, seqIndex? i xs.length = some j ∧ xs[j]? = some v ∧ j < xs.length ∧ -(xs.length : Int) ≤ i ∧ i < xs.length := by
  unfold atI at h
  cases e : ixN xs.length i with
  | none => rw [e] at h; cases h
  | some j =>
    rw [e] at h
    obtain ⟨h1, h2, h3, h4⟩ := ixN_seq e
    exact ⟨j, h1, h, h2, h3, h4⟩
theorem atI_nat {α : Type} {xs : List α} {j : Nat} {v : α} (h : xs[j]? = some v) : atI xs (j : Int) = some v := by
  have hj : j < xs.length := (List.getElem?_eq_some_iff.mp h).1
  have e : ixN xs.length (j : Int) = some j := by
    unfold ixN
    rw [if_pos (by omega), if_pos (by omega)]; simp
  unfold atI; rw [e]; exact h
def PlainIx (b : Expr) : Prop := ∀ o i, subscripted b false o i = operate [o, i] (getItem o i)
def IxR (X : Cx) (r : R2) : Prop :=
  ∀ (value slice : Expr) (pins : List (Addr × Obj)) (s : Shared) (σ : St) (H : Hp) (x y : V) (v u : Value) (Q : VK), Inv X pins σ H s → RelV x v → RelV y u → r x y H Q →
    subscripted slice false v u = operate [v, u] (getItem v u) → wpAny (model X.prog X.w) X.A (subscriptTail value slice v u) (EP X pins σ Q) X.xe s
def MtR (X : Cx) (id : String) (r : V → List V → Hp → VK → Prop) : Prop :=
  ∀ (pins : List (Addr × Obj)) (s : Shared) (σ : St) (H : Hp) (x : V) (xs : List V) (v : Value) (us : List Value) (Q : VK), Inv X pins σ H s → RelV x v → Vals xs us → r x xs H Q →
    wpAny (model X.prog X.w) X.A (call (.builtin id) (v :: us)) (EP X pins σ Q) X.xe s
section
variable {X : Cx} {a b : Expr} {ta tb : TE} {pos : Pos}
theorem pe_ix {r : R2} (hr : IxR X r) (ha : PE X a ta) (hb : PE X b tb) (hs : PlainIx b) : PE X (.Subscript a b pos) (tOp r ta tb) := by
  intro pins s σ H Q I h
  exact Subscript_ (binT ha hb I h fun v u s2 x y H2 I2 rx ry q => hr a b pins s2 σ H2 x y v u Q I2 rx ry q (hs _ _))

def rIxL (K : PySem.W.Frag) : R2 := fun x y H Q => ∃ p xs i v, x = .ref p ∧ y = .int i ∧ SqL K H p xs ∧ atI xs i = some v ∧ Q v H
def rIxT (K : PySem.W.Frag) : R2 := fun x y H Q => ∃ p xs i v, x = .ref p ∧ y = .int i ∧ SqT K H p xs ∧ atI xs i = some v ∧ Q v H
def rIxS : R2 := fun x y H Q => ∃ z i c, x = .str z ∧ y = .int i ∧ z.length ≤ sizeLine ∧ atI z.cps.toList i = some c ∧ Q (.str ⟨#[c]⟩) H
theorem ix_list : IxR X (rIxL X.K) := by
  intro value slice pins s σ H x y v u Q I rx ry h hs
  obtain ⟨p, xs, i, z, rfl, rfl, hq, he, q⟩ := h
  cases rx
  obtain ⟨t, rfl⟩ := ry
  obtain ⟨its, r, pl, hz⟩ := I.list hq
  obtain ⟨j, h1, h2, h3, h4, h5⟩ := atI_get he
  obtain ⟨w, ew, rw'⟩ := r.get h2
  have hl := r.length
  have hn := line63
  have fin : EP X pins σ Q w s := ⟨z, H, I, rw', q⟩
  by_cases h0 : 0 ≤ i
  · have hj : i.toNat = j := by
      rw [seqIndex_of h0 h5] at h1
      exact Option.some.inj h1
    exact item_listR pl.isList h0 (by omega) (by rw [hj]; simpa using ew) fin hs
  · have hj : (i + (its.toArray.size : Int)).toNat = j := by
      rw [seqIndex_neg (by omega) h4] at h1
      rw [List.size_toArray, ← hl]
      exact Option.some.inj h1
    exact subscriptTail_builtinR (x := w) pl.isList.typeIs slot_list_getitem.lookup
      (wpAny_getItem_list_neg (Q := fun r s' => r = w ∧ EP X pins σ Q r s') pl.isList (by omega) (by rw [List.size_toArray] <;> omega) (by omega) (by rw [hj]; simpa using ew) ⟨rfl, fin⟩) hs
theorem ix_tup : IxR X (rIxT X.K) := by
  intro value slice pins s σ H x y v u Q I rx ry h hs
  obtain ⟨p, xs, i, z, rfl, rfl, hq, he, q⟩ := h
  cases rx
  obtain ⟨t, rfl⟩ := ry
  obtain ⟨its, r, pl, hz⟩ := I.tuple hq
  obtain ⟨j, h1, h2, h3, h4, h5⟩ := atI_get he
  obtain ⟨w, ew, rw'⟩ := r.get h2
  have hl := r.length
  have hn := line63
  have fin : EP X pins σ Q w s := ⟨z, H, I, rw', q⟩
  exact subscriptTail_builtinR (x := w) pl.typeIs slot_tuple_getitem.lookup
    (getItem_tuple (j := j) (Q := fun r s' => r = w ∧ EP X pins σ Q r s') pl (by omega) (by omega) (by rw [List.size_toArray, ← hl]; exact h1) (by simpa using ew) ⟨rfl, fin⟩) hs
theorem ix_str : IxR X rIxS := by
  intro value slice pins s σ H x y v u Q I rx ry h hs
  obtain ⟨z, i, c, rfl, rfl, hz, he, q⟩ := h
  obtain ⟨t, rfl⟩ := rx
  obtain ⟨t', rfl⟩ := ry
  obtain ⟨j, h1, h2, h3, h4, h5⟩ := atI_get he
  have hl : z.cps.toList.length = z.length := by simp [Str.length]
  rw [hl] at h1 h4 h5
  have hn := line63
  exact tail_any (typeIs_str s z t) slot_str_getitem.lookup (getItem_str (c := c) (by
    have e1 : decide (i < -(2 ^ 63 : Int)) = false := decide_eq_false (by omega)
    have e2 : decide (i ≥ 2 ^ 63) = false := decide_eq_false (by omega)
    rw [e1, e2, Bool.or_false]) (by rw [h1]; simpa using h2) ⟨.str ⟨#[c]⟩, H, I.tok _, ⟨_, rfl⟩, q⟩) hs
theorem slice_bounds (lo hi : Option Int) (n : Nat) : (sliceBounds lo hi none n).1 = ((HT.sIx n 0 lo : Nat) : Int) ∧ (sliceBounds lo hi none n).2.1 = ((HT.sIx n n hi : Nat) : Int) ∧ (sliceBounds lo hi none n).2.2 = 1 := by
  refine ⟨?_, ?_, rfl⟩
  · cases lo with
    | none => simp [sliceBounds, HT.sIx]
    | some i =>
      simp only [sliceBounds, HT.sIx, Option.getD_none, show (1 : Int) > 0 by decide, if_true]
      by_cases h : i < 0
      · simp only [h, if_true] <;> omega
      · simp only [h, if_false] <;> omega
  · cases hi with
    | none => simp [sliceBounds, HT.sIx]
    | some i =>
      simp only [sliceBounds, HT.sIx, Option.getD_none, show (1 : Int) > 0 by decide, if_true]
      by_cases h : i < 0
      · simp only [h, if_true] <;> omega
      · simp only [h, if_false] <;> omega
theorem slicePick_cut (its : List Value) (lo hi : Option Int) : slicePick its.toArray lo hi none = ((its.drop (HT.sIx its.length 0 lo)).take (HT.sIx its.length its.length hi - HT.sIx its.length 0 lo)).toArray := by
  obtain ⟨h1, h2, h3⟩ := slice_bounds lo hi its.toArray.size
  unfold slicePick
  rw [h1, h2, h3]
  simp only [sliceRange_one, pick_run, List.size_toArray] <;> rfl
def rSlL (K : PySem.W.Frag) : V → Option Int → Option Int → Hp → VK → Prop := fun x lo hi H Q => ∃ a xs, x = .ref a ∧ SqL K H a xs ∧ ∀ p, H p = none → Q (.ref p) (upd H p (.lst (cutV xs lo hi)))
theorem sl_list : SlR X (rSlL X.K) := by
  intro pins s σ H x v vl vu lo hi sl Q I rx hs pl pu h
  obtain ⟨a, xs, rfl, hx, q⟩ := h
  cases rx
  obtain ⟨its, r, ht, hz⟩ := I.list hx
  have hlen := r.length
  refine ⟨"list", _, slot_list_getitem.lookup, ht.isList.typeIs, ?_⟩
  refine wpAny_getItem_list_slice ht.isList hs pl pu .none (by simp) ?_ (by rw [List.size_toArray] <;> omega)
  rw [slicePick_cut, ← hlen]
  refine ⟨.ref s.heap.objs.size, _, I.laid (t' := s.toks) (o := .lst (cutV xs lo hi)) (fun b ob q => Heap.get?_push_of_some _ q) (Nat.le_refl _) ?_, rfl, q _ (I.hok.fresh (Nat.le_refl _))⟩
  exact ⟨Nat.le_trans (cutV_length xs lo hi) hz, _, 0, (r.drop (HT.sIx xs.length 0 lo)).take (HT.sIx xs.length xs.length hi - HT.sIx xs.length 0 lo), Heap.get?_push_size _ rfl⟩

def flatV : V → Bool
  | .non => true
  | .bl _ => true
  | .int _ => true
  | .str _ => true
  | _ => false
def eqV : V → V → Bool
  | .non, .non => true
  | .bl a, .bl b => a == b
  | .bl a, .int b => (if a then 1 else 0) == b
  | .int a, .bl b => a == (if b then 1 else 0)
  | .int a, .int b => a == b
  | .str a, .str b => a == b
  | _, _ => false
theorem eqAt_V {A : Around} {s : Shared} {y x : V} {u v : Value} (ry : RelV y u) (rx : RelV x v) (fy : flatV y = true) (fx : flatV x = true) : SeqAt.EqAt A s u v (eqV y x) := by
  cases y with
  | non =>
    cases ry
    cases x with
    | non => cases rx; exact SeqAt.EqAt.same _
    | bl b => cases rx; exact SeqAt.EqAt.none_bool b
    | int b => obtain ⟨t, rfl⟩ := rx; exact SeqAt.EqAt.none_int b t
    | str b => obtain ⟨t, rfl⟩ := rx; exact SeqAt.EqAt.none_str b t
    | _ => exact absurd (show false = true from fx) Bool.false_ne_true
  | bl a =>
    cases ry
    cases x with
    | non => cases rx; exact SeqAt.EqAt.bool_none a
    | bl b => cases rx; exact SeqAt.EqAt.bool_bool a b
    | int b => obtain ⟨t, rfl⟩ := rx; exact SeqAt.EqAt.bool_int a b t
    | str b => obtain ⟨t, rfl⟩ := rx; exact SeqAt.EqAt.bool_str a b t
    | _ => exact absurd (show false = true from fx) Bool.false_ne_true
  | int a =>
    obtain ⟨t', rfl⟩ := ry
    cases x with
    | non => cases rx; exact SeqAt.EqAt.int_none a t'
    | bl b => cases rx; exact SeqAt.EqAt.int_bool a t' b
    | int b => obtain ⟨t, rfl⟩ := rx; exact SeqAt.EqAt.int_int a t' b t
    | str b => obtain ⟨t, rfl⟩ := rx; exact SeqAt.EqAt.int_str a t' b t
    | _ => exact absurd (show false = true from fx) Bool.false_ne_true
  | str a =>
    obtain ⟨t', rfl⟩ := ry
    cases x with
    | non => cases rx; exact SeqAt.EqAt.str_none a t'
    | bl b => cases rx; exact SeqAt.EqAt.str_bool a t' b
    | int b => obtain ⟨t, rfl⟩ := rx; exact SeqAt.EqAt.str_int a t' b t
    | str b => obtain ⟨t, rfl⟩ := rx; exact SeqAt.EqAt.str_str a t' b t
    | _ => exact absurd (show false = true from fx) Bool.false_ne_true
  | _ => exact absurd (show false = true from fy) Bool.false_ne_true
theorem call_len_seq : CallR X (.builtin "len") (fun xs H Q => ∃ p ys, xs = [.ref p] ∧ (SqL X.K H p ys ∨ SqT X.K H p ys) ∧ Q (.int ys.length) H) := by
  intro pins s σ H xs us Q I r h
  obtain ⟨p, ys, rfl, hq, q⟩ := h
  obtain ⟨u, rfl, rx⟩ := vals1 r
  cases rx
  have hn := line63
  rcases hq with hq | hq
  · obtain ⟨its, r', pl, hz⟩ := I.list hq
    have hlen := r'.length
    exact Calls.call_len_list pl.isList (by simp only [List.size_toArray] <;> omega) ⟨.int ys.length, H, I.tok _, ⟨s.toks + 1, by rw [List.size_toArray, hlen]⟩, q⟩
  · obtain ⟨its, r', pl, hz⟩ := I.tuple hq
    have hlen := r'.length
    exact len_tuple pl (by simp only [List.size_toArray] <;> omega) ⟨.int ys.length, H, I.tok _, ⟨s.toks + 1, by rw [List.size_toArray, hlen]⟩, q⟩
theorem call_len_str : CallR X (.builtin "len") (fun xs H Q => ∃ z, xs = [.str z] ∧ z.length ≤ sizeLine ∧ Q (.int z.length) H) := by
  intro pins s σ H xs us Q I r h
  obtain ⟨z, rfl, hz, q⟩ := h
  obtain ⟨u, rfl, t, rfl⟩ := vals1 r
  have hn := line63
  exact len_str (by omega) ⟨.int z.length, H, I.tok _, ⟨_, rfl⟩, q⟩
theorem CallR.or {f : Value} {r r' : List V → Hp → VK → Prop} (h : CallR X f r) (h' : CallR X f r') : CallR X f (fun xs H Q => r xs H Q ∨ r' xs H Q) := by
  intro pins s σ H xs us Q I rs q
  rcases q with q | q
  · exact h pins s σ H xs us Q I rs q
  · exact h' pins s σ H xs us Q I rs q
theorem call_tuple_of : CallR X (.type "tuple") (fun xs H Q => ∃ p ys, xs = [.ref p] ∧ ((SqL X.K H p ys ∧ ∀ l, H l = none → Q (.ref l) (upd H l (.tup ys))) ∨ (SqT X.K H p ys ∧ Q (.ref p) H))) := by
  intro pins s σ H xs us Q I r h
  obtain ⟨p, ys, rfl, h⟩ := h
  obtain ⟨u, rfl, rx⟩ := vals1 r
  cases rx
  rcases h with ⟨hq, q⟩ | ⟨hq, q⟩
  · obtain ⟨its, r', pl, hz⟩ := I.list hq
    have hlen := r'.length
    refine call_tuple_list pl.isList (fun h' kp => ?_) (by simp only [List.size_toArray] <;> omega)
    have I1 : Inv X pins σ H { s with heap := h' } := I.kept (t' := s.toks) kp
    have I2 : Inv X pins σ (upd H h'.objs.size (.tup ys)) { s with heap := h'.push { cls := .type "tuple", data := .seq its.toArray } } :=
      I1.laid (t' := s.toks) (fun b o e => Heap.get?_push_of_some _ e) (Nat.le_refl _) (show ObjOk X.prog X.w _ _ _ (.tup ys) from ⟨hz, its, r', IsTup.new _ _⟩)
    exact ⟨.ref h'.objs.size, _, I2, rfl, q _ (I1.hok.fresh (Nat.le_refl _))⟩
  · obtain ⟨its, r', pl, hz⟩ := I.tuple hq
    exact call_tuple_same pl ⟨.ref p, H, I, rfl, q⟩

def tyV (K : PySem.W.Frag) (T : String) (x : V) (H : Hp) : Prop := match x with
  | .str _ => T = "str"
  | .int _ => T = "int"
  | .ref p => (T = "list" ∧ ∃ xs, SqL K H p xs) ∨ (T = "tuple" ∧ ∃ o, K.lookup p = some o ∧ o.cls = .type "tuple" ∧ o.dict = none) ∨
      (T = "dict" ∧ ((∃ kvs, H p = some (.dK kvs)) ∨ ∃ kvs, H p = some (.dT kvs))) ∨ (T = "set" ∧ ∃ S n, H p = some (.set S n))
  | _ => False
theorem tyV_is {pins : List (Addr × Obj)} {σ : St} {H : Hp} {s : Shared} {T : String} {x : V} {v : Value} (I : Inv X pins σ H s) (r : RelV x v) (ty : tyV X.K T x H) :
    s.TypeIs v T ∧ ∀ a, v = .ref a → ∃ ob, s.heap.get? a = some ob ∧ ob.dict = none := by
  cases x with
  | str z =>
    obtain ⟨t, rfl⟩ := r
    cases (show T = "str" from ty)
    exact ⟨typeIs_str s z t, fun _ e => nomatch e⟩
  | int i =>
    obtain ⟨t, rfl⟩ := r
    cases (show T = "int" from ty)
    exact ⟨typeIs_int s i t, fun _ e => nomatch e⟩
  | ref p =>
    cases r
    rcases ty with ⟨rfl, xs, hq⟩ | ⟨rfl, o, hk, hc, hd⟩ | ⟨rfl, hk⟩ | ⟨rfl, S, n, hk⟩
    · obtain ⟨its, _, pl, _⟩ := I.list hq
      refine ⟨pl.isList.typeIs, fun a e => ?_⟩
      cases e
      obtain ⟨o, n, e, c, hd, _⟩ := pl
      exact ⟨o, e, hd⟩
    · refine ⟨⟨o, I.kIn p o hk, hc⟩, fun a e => ?_⟩
      cases e
      exact ⟨o, I.kIn _ o hk, hd⟩
    · have z : ∃ o, s.heap.get? p = some o ∧ o.ExactDict := by
        rcases hk with ⟨kvs, hk⟩ | ⟨kvs, hk⟩
        · obtain ⟨_, _, _, _, o, _, _, e, ex, _⟩ := I.hok p _ hk
          exact ⟨o, e, ex⟩
        · obtain ⟨_, _, _, _, o, _, _, e, ex, _⟩ := I.hok p _ hk
          exact ⟨o, e, ex⟩
      obtain ⟨o, e, ex⟩ := z
      refine ⟨⟨o, e, ex.1⟩, fun a e2 => ?_⟩
      cases e2
      exact ⟨o, e, ex.2.1⟩
    · obtain ⟨o, _, _, _, e, ex, _⟩ := I.hok p _ hk
      refine ⟨⟨o, e, ex.1⟩, fun a e2 => ?_⟩
      cases e2
      exact ⟨o, e, ex.2.1⟩
  | _ => exact False.elim ty
def tBM0 (K : PySem.W.Frag) (T : String) (r : V → List V → Hp → VK → Prop) (to : TE) : TE := fun σ H Q => to σ H fun x H1 => tyV K T x H1 ∧ r x [] H1 Q
def tBM (K : PySem.W.Frag) (T : String) (r : V → List V → Hp → VK → Prop) (to : TE) (t : TA) : TE := fun σ H Q => to σ H fun x H1 => tyV K T x H1 ∧ t σ H1 fun xs H2 => r x xs H2 Q
variable {o e : Expr} {es : List Expr} {to : TE} {t : TA} {name : Str} {apos cpos : Pos} {T id : String} {r : V → List V → Hp → VK → Prop}
theorem pe_bm0 (pa : PlainAttrs T) (slot : Slot T name id) (hty : typeOf (.builtin id) = pure (.type "method_descriptor")) (hm : MtR X id r) (ho : PE X o to)
    (hbase : attributeBase o name X.env (eval o X.env) = eval o X.env := by rfl) (hline : (apos.endLine == cpos.line) = true := by rfl) : PE X (.Call (.Attribute o name apos) [] [] cpos) (tBM0 X.K T r to) := by
  intro pins s σ H Q I h
  refine wpAny_Call_method0_late hbase hline (thn (ho pins s σ H _ I h) fun v s1 ⟨x, H1, I1, r1, ty, q1⟩ => ?_)
  obtain ⟨h1, h2⟩ := tyV_is I1 r1 ty
  exact ⟨T, id, pa, slot, hty, h1, h2, Calls.callWith_builtin rfl (PySem.evalArgs_none (hm pins s1 σ H1 x [] v [] Q I1 r1 .nil q1))⟩
theorem pe_bm (pa : PlainAttrs T) (slot : Slot T name id) (hty : typeOf (.builtin id) = pure (.type "method_descriptor")) (hm : MtR X id r) (ho : PE X o to) (ha : PA X (e :: es) t)
    (hbase : attributeBase o name X.env (eval o X.env) = eval o X.env := by rfl)
    (hfew : ((backTo cpos (starEach (e :: es) X.env)).all (fun x => !x.1) && (backToKw cpos (keywordEach [] X.env)).all (fun x => x.1.isSome)
      && decide ((e :: es).length + ([] : List Keyword).length + (if ([] : List Keyword).isEmpty then 0 else 1) < 30)) = true := by rfl)
    (hline : (apos.endLine == cpos.line) = true := by rfl) (hs : starEach (e :: es) X.env = (false, eval e X.env) :: starEach es X.env := by rfl) (hplain : (backTo cpos (starEach es X.env)).any (·.1) = false := by rfl) :
    PE X (.Call (.Attribute o name apos) (e :: es) [] cpos) (tBM X.K T r to t) := by
  intro pins s σ H Q I h
  refine wpAny_Call_method_late hbase hfew hline rfl (thn (ho pins s σ H _ I h) fun v s1 ⟨x, H1, I1, r1, ty, q1⟩ => ?_)
  obtain ⟨h1, h2⟩ := tyV_is I1 r1 ty
  refine ⟨T, id, pa, slot, hty, h1, h2, ?_⟩
  have hA := ha cpos pins s1 σ H1 _ I1 q1
  rw [hs] at hA ⊢
  refine Calls.callWith_builtin (by show (false || (backTo cpos (starEach es X.env)).any (·.1)) = false; rw [hplain] <;> rfl) (Calls.evalArgs_plain ?_)
  exact thn hA fun us s2 ⟨vs, H2, I2, r2, q2⟩ => hm pins s2 σ H2 x vs v us Q I2 r1 r2 q2
end
end L2

namespace L2
open PySem PySem.Spec PyProof.Rows

def MtM (X : Cx) (id : String) (r : V → List V → Hp → VK → Prop) : Prop :=
  ∀ (pins : List (Addr × Obj)) (s : Shared) (σ : St) (H : Hp) (x : V) (xs : List V) (v : Value) (us : List Value) (Q : VK), Inv X pins σ H s → RelV x v → Vals xs us → r x xs H Q →
    wpAny (model X.prog X.w) X.A (call (.builtin id) (v :: us)) (EP X pins σ Q) X.xe s

theorem Vals.one : ∀ {x : V} {us : List Value}, Vals [x] us → ∃ u, us = [u] ∧ RelV x u
  | _, _, .cons r .nil => ⟨_, rfl, r⟩
theorem Vals.zero : ∀ {us : List Value}, Vals [] us → us = []
  | _, .nil => rfl
theorem Vals.dropLast {xs : List V} {us : List Value} (h : Vals xs us) : Vals xs.dropLast us.dropLast := by
  induction h with
  | nil => exact .nil
  | cons r t ih =>
    cases t with
    | nil => exact .nil
    | cons q t' => exact .cons r ih
theorem erase_last {α : Type} (l : List α) : l.eraseIdx (l.length - 1) = l.dropLast := by
  induction l with
  | nil => rfl
  | cons a r ih =>
    cases r with
    | nil => rfl
    | cons b r =>
      have e : (a :: b :: r).length - 1 = ((b :: r).length - 1) + 1 := by
        have h1 : (a :: b :: r).length = r.length + 2 := rfl
        have h2 : (b :: r).length = r.length + 1 := rfl
        omega
      rw [e, List.eraseIdx_cons_succ, ih]
      all_goals rfl
section
variable {X : Cx} {pins : List (Addr × Obj)} {σ : St} {H : Hp} {s : Shared} {l b : Addr} {xs ys zs : List V}

theorem Inv.lset {its its' : List Value} {n : Nat} {f : Array Value → Array Value} {t' : Nat} (I : Inv X pins σ H s) (hH : H l = some (.lst xs))
    (e : s.heap.get? l = some { cls := .type "list", data := .seq its.toArray n }) (hf : f its.toArray = its'.toArray) (hv : Vals ys its') (hz : ys.length ≤ sizeLine) :
    Inv X pins σ (upd H l (.lst ys)) { s with heap := s.heap.update l (Obj.mapSeq f), toks := t' } := by
  have q := PySem.IsL.update e f
  rw [hf] at q
  refine I.write (x := l) (e := l) (by rw [hH]; exact trivial) (.inl rfl) (fun b' u hb hu => (Heap.get?_update_other s.heap (Obj.mapSeq f) (Ne.symm hb)).trans hu) ⟨_, q⟩ ?_
  exact ⟨hz, its', _, hv, q⟩
theorem Inv.fresh (I : Inv X pins σ H s) : H s.heap.objs.size = none := I.hok.fresh (Nat.le_refl _)
theorem Inv.lstM (I : Inv X pins σ H s) (hH : H l = some (.lst xs)) : xs.length ≤ sizeLine ∧ ∃ (its : List Value) (n : Nat), Vals xs its ∧ xs.length = its.length ∧ s.heap.get? l = some { cls := .type "list", data := .seq its.toArray n } := by
  obtain ⟨z, its, n, r, e⟩ := I.hok l _ hH
  exact ⟨z, its, n, r, r.length, e⟩

theorem notLongL {n : Nat} (h : n ≤ sizeLine) : Builtin.List.listTooLong n = false := by
  unfold Builtin.List.listTooLong
  exact decide_eq_false (by omega)
end

section
variable {X : Cx}

def rAppend : V → List V → Hp → VK → Prop := fun x vs H Q => ∃ l xs y, x = .ref l ∧ vs = [y] ∧ H l = some (.lst xs) ∧ xs.length < sizeLine ∧ Q .non (upd H l (.lst (xs ++ [y])))
theorem mt_append : MtM X "list.append" rAppend := by
  intro pins s σ H x vs v us Q I rx rv h
  obtain ⟨l, xs, y, rfl, rfl, hH, hz, q⟩ := h
  cases rx
  obtain ⟨u, rfl, ru⟩ := rv.one
  obtain ⟨z, its, n, r, hl, e⟩ := I.lstM hH
  refine call_meets F.slot_list_append ⟨_, e, rfl⟩ F.entry_list_append (F.args_list_append_2 _ _) (PySem.list_append l its.toArray n u (by rw [List.size_toArray]; omega)) ⟨e, ?_⟩
  refine ⟨.non, _, I.lset (its' := its ++ [u]) hH e (by simp) (r.append (.cons ru .nil)) ?_, rfl, q⟩
  rw [List.length_append, List.length_singleton]
  omega

def rExtend : V → List V → Hp → VK → Prop := fun x vs H Q => ∃ l b xs zs, x = .ref l ∧ vs = [.ref b] ∧ H l = some (.lst xs) ∧ H b = some (.lst zs) ∧ xs.length + zs.length ≤ sizeLine ∧ Q .non (upd H l (.lst (xs ++ zs)))
theorem mt_extend : MtM X "list.extend" rExtend := by
  intro pins s σ H x vs v us Q I rx rv h
  obtain ⟨l, b, xs, zs, rfl, rfl, hH, hB, hz, q⟩ := h
  cases rx
  obtain ⟨u, rfl, ru⟩ := rv.one
  cases ru
  obtain ⟨z, its, n, r, hl, e⟩ := I.lstM hH
  obtain ⟨z2, its2, n2, r2, hl2, e2⟩ := I.lstM hB
  have hsz : its.toArray.size + its2.toArray.size ≤ sizeLine := by rw [List.size_toArray, List.size_toArray]; omega
  have hlong : ¬ (!its.toArray.isEmpty && Builtin.List.listTooLong (its.toArray.size + its2.toArray.size)) = true := by
    rw [notLongL hsz, Bool.and_false]
    exact Bool.false_ne_true
  refine call_meets F.slot_list_extend ⟨_, e, rfl⟩ F.entry_list_extend (F.args_list_extend_2 _ _)
    (AutoSeq1.list_extend_list_list_0 l its.toArray n b its2.toArray n2 hlong (by rw [List.size_toArray]; omega) (by omega)) ⟨e, e2, ?_⟩
  refine ⟨.non, _, I.lset (its' := its ++ its2) hH e (by simp) (r.append r2) ?_, rfl, q⟩
  rw [List.length_append]
  omega

def rPop : V → List V → Hp → VK → Prop := fun x vs H Q => ∃ l xs y, x = .ref l ∧ vs = [] ∧ H l = some (.lst xs) ∧ xs[xs.length - 1]? = some y ∧ Q y (upd H l (.lst xs.dropLast))
theorem mt_pop : MtM X "list.pop" rPop := by
  intro pins s σ H x vs v us Q I rx rv h
  obtain ⟨l, xs, y, rfl, rfl, hH, hy, q⟩ := h
  cases rx
  have hus := rv.zero
  subst hus
  obtain ⟨z, its, n, r, hl, e⟩ := I.lstM hH
  obtain ⟨u, hu, ru⟩ := r.get hy
  have hy' : its.toArray[its.toArray.size - 1]? = some u := by
    show its.toArray[its.length - 1]? = some u
    rw [← Array.getElem?_toList, ← hl]
    exact hu
  refine call_meets F.slot_list_pop ⟨_, e, rfl⟩ F.entry_list_pop (F.args_list_pop_1 _) (MeetsSeq.list_pop_last l its.toArray n u hy' (by rw [List.size_toArray]; omega)) ⟨e, ?_⟩
  refine ⟨y, _, I.lset (its' := its.dropLast) hH e ?_ r.dropLast ?_, ru, q⟩
  · show its.toArray.eraseIdxIfInBounds (its.toArray.size - 1) = its.dropLast.toArray
    rw [List.size_toArray, List.eraseIdxIfInBounds_toArray, erase_last]
  · rw [List.length_dropLast]
    omega

end

section
variable {prog : Program} {w : World} {A : Around} {E : Value → Shared → Prop} {s : Shared}
end

section
variable {X : Cx}
end
end L2

namespace Att
open PySem PySem.W PySem.Calls PyProof.Rows

theorem ints_of_wellAll {P : Params} {h : Heap} : ∀ (ns : List Int) (vs : List Value), WellAll P h vs (ns.map WData.int) → IntsAre vs ns := by
  intro ns
  induction ns with
  | nil =>
    intro vs w
    rw [List.map_nil] at w
    cases w
    exact .nil
  | cons n ns ih =>
    intro vs w
    rw [List.map_cons] at w
    cases w with
    | cons a b =>
      cases a
      exact .cons _ _ (ih _ b)

theorem script_of {l : OpenLaw} {n : Nat} (hn : l.most = some n) {P : Params} {h : Heap} {args : List WData} {vals : List Value}
    (hpre : l.row.toRowW.claim.pre args = true) (hwl : WellAll P h vals args) :
    ∃ a vs ns, vals = [Value.ref a] ∧ args = [WData.list (ns.map WData.int)] ∧ h.get? a = some { cls := .type "list", data := .seq vs.toArray } ∧ IntsAre vs ns ∧ ns.length ≤ n := by
  have hsh : WShape.hasAll [] args [.list .int] = true := (pre_splitW hpre).1
  have hc : l.pre.holds [] { args := args } = true := (pre_splitW hpre).2
  obtain ⟨d, r, rfl, h1, h2⟩ := hasAllW_cons hsh
  obtain rfl := hasAllW_nil h2
  obtain ⟨xs, rfl, h3⟩ := hasW_list h1
  obtain ⟨ns, rfl⟩ := items_int h3
  have hlen : ns.length ≤ n := by
    unfold OpenLaw.pre at hc
    have h4 : (WTm.not (.lt (.lit (.int (n : Int))) (.len (.arg 0)))).holds [] { args := [.list (ns.map .int)] } = true := by
      have h4 := (holds_andW hc).1
      rw [hn] at h4
      exact h4
    have h5 := condW_of h4 (w_not (w_lt w_lit (w_len_list (w_arg rfl))))
    rw [List.length_map] at h5
    refine Nat.le_of_not_lt fun q => ?_
    have q' : (n : Int) < ((ns.length : Nat) : Int) := by omega
    first
      | (rw [decide_eq_true q'] at h5; exact absurd h5 (by decide))
      | (simp at h5; omega)
  cases hwl with
  | cons w1 w2 =>
    cases w2
    cases w1 with
    | list ho hall => exact ⟨_, _, ns, rfl, rfl, ho, ints_of_wellAll ns _ hall, hlen⟩

theorem post_true (l : OpenLaw) (args : List WData) : l.row.toRowW.claim.post args (.bool true) args = true :=
  postW_of (r := l.row.toRowW) (X := (true == true))
    (show WShape.has [] (.bool true) .bool = true by first | rfl | decide | simp [WShape.has, WShape.arms, WShape.armsAll])
    (show (WTm.eq .res (.lit (.bool true))).value [] { args := args, res := some (.bool true), after := args } = some (.bool (true == true)) from w_eq_bool (w_res rfl) w_lit) rfl

theorem attach_call {l : OpenLaw} {n : Nat} {q : Program} {loose : List Str} {XP : (Str → Option Value) → Heap → Prop} {YP : World → Heap → Prop} {d : DefRec}
    (hn : l.most = some n) (hdf : d.params.defaults = [])
    (call : ∀ (w : World) (s₀ s₁ : Shared) (mg mb : Str → Option Value) (fa : Addr) (o : Obj) (pm cd doc : Value) (a : Addr) (vs : List Value) (ns : List Int),
      Ground q loose [] XP w s₀ mg mb s₁.heap → YP w s₁.heap →
      s₁.heap.get? fa = some o → o.data = .func (docDef d.name d.params d.body d.scope pm cd doc) → s₁.heap.CodeRec cd d.name → mg d.name = some (.ref fa) →
      s₁.heap.get? a = some { cls := .type "list", data := .seq vs.toArray } → IntsAre vs ns → ns.length ≤ n → s₁.gens = #[] →
      codeAny (model l.prog w) callerA (.call (.ref fa) ⟨[.ref a], []⟩) (fun r s' => r = .ok (.ret (.bool true)) ∧ OldK s₁.heap s'.heap ∧ s'.os = s₁.os ∧ AllBare s'.gens) s₁) :
    WalkO q loose XP YP l.row.toRowW d [] (fun f vs => PySem.call f vs) := by
  intro w s₀ s₁ mg mb G Y fa o pm cd doc dV kV ho hd hcd hD hmg hg args vals as hpre hlay hrd hwl hlo
  obtain rfl : dV = .none := Dflts.none hD hdf
  obtain rfl : kV = .none := Dflts.noKw hD
  obtain ⟨a, vs, ns, rfl, rfl, hobj, hints, hlen⟩ := script_of hn hpre hwl
  refine enter_call (codeAny_mono (call w s₀ s₁ mg mb fa o pm cd doc a vs ns G Y ho (fd_plain hd) hcd hmg hobj hints hlen hg) fun r s' hq => ?_)
  obtain ⟨rfl, h2, h3, h4⟩ := hq
  exact ⟨.inl ⟨.bool true, .bool true, [], rfl, fun _ => rfl, .bool true, post_true l _, fun _ => ⟨List.Pairwise.nil, fun _ hm => (nomatch hm)⟩⟩, h2, h3, h4⟩

section
variable {prog : Program} {w : World} {A : Around} {E : Value → Shared → Prop} {s : Shared} {K : Frag}

end
end Att

namespace L2
open PySem PySem.Spec PyProof.Rows

theorem vals_ints : ∀ {vs : List Value} {ns : List Int}, IntsAre vs ns → Vals (ns.map V.int) vs
  | _, _, .nil => .nil
  | _, _, .cons n t h => .cons ⟨t, rfl⟩ (vals_ints h)

def Only (H : Hp) : Prop := ∀ b, H b = none ∨ ∃ o xs, H b = some (.frz o (.lst xs))

theorem law_call {P : Program} {w : World} {K : PySem.W.Frag} {mg mb : Str → Option Value} {CX : CXT} {k : Nat} {fa a : Addr} {fd : FuncData} {x : Str} {sp : Sp} {s₁ : Shared} {vs : List Value} {ns : List Int}
    (KX : K.In s₁.heap) (hns : s₁.heap.Ns mainGlobals mg) (hb : s₁.heap.Ns builtinsNs mb) (hbb : ∀ x : Str, x ≠ "__name__" → mb x = bootBuiltins x) (hlim : s₁.heap.NoLimit) (hg : s₁.gens = #[])
    (ha : s₁.heap.get? a = some { cls := .type "list", data := .seq vs.toArray }) (hi : IntsAre vs ns) (hl : ns.length ≤ sizeLine) (hr : Room k callerA)
    (F : ∀ base : Heap, K.In base → base.Ns mainGlobals mg → FnOk P w K mg base CX k fa fd [x] sp) (hbind : ∀ (s : Shared) (u : Value), BindsTo s fd ⟨[u], []⟩ [(x, u)])
    (hsp : ∀ H : Hp, Only H → SqL K H a (ns.map V.int) → sp [.ref a] H (fun v _ => v = .bl true) fun _ _ _ => False)
    (hCX : ∀ H e s', CX [] H s₁ (fun _ _ _ => False) e s' → False) :
    codeAny (model P w) callerA (.call (.ref fa) ⟨[.ref a], []⟩) (fun r s' => r = .ok (.ret (.bool true)) ∧ OldK s₁.heap s'.heap ∧ s'.os = s₁.os ∧ AllBare s'.gens) s₁ := by
  have rv := vals_ints hi
  have lenV := hi.length
  -- from an abstract heap in which nothing but the script may be tracked
  have core : ∀ H : Hp, Only H → SqL K H a (ns.map V.int) → HOk P w H s₁.heap → (∀ b, H b ≠ none → b = a) → (H a ≠ none → K.lookup a = none) →
      codeAny (model P w) callerA (.call (.ref fa) ⟨[.ref a], []⟩) (fun r s' => r = .ok (.ret (.bool true)) ∧ OldK s₁.heap s'.heap ∧ s'.os = s₁.os ∧ AllBare s'.gens) s₁ := by
    intro H hO hS hok hA hK
    have base_of : ∀ {b : Addr} {o : Obj}, s₁.heap.get? b = some o → H b = none → (hidT s₁.heap H).get? b = some o := fun e n => hidT_get e n
    have noA : ∀ {b : Addr} {o : Obj} {es : Array DictEntry} {ep : Nat}, s₁.heap.get? b = some o → o.data = .dict es ep → H b = none := fun {b o es ep} e d => by
      cases q : H b with
      | none => rfl
      | some u =>
        have e' : b = a := hA b (by rw [q]; simp)
        subst e'
        rw [ha] at e; cases e
        have d' : Data.seq vs.toArray _ = Data.dict es ep := d
        cases d'
    have nsK : ∀ {b : Addr} {m : Str → Option Value}, s₁.heap.Ns b m → (hidT s₁.heap H).Ns b m := fun {b m} ⟨o, es, ep, e, d, r⟩ => ⟨o, es, ep, base_of e (noA e d), d, r⟩
    have hKb : K.In (hidT s₁.heap H) := fun b o e => base_of (KX b o e) (by
      cases q : H b with
      | none => rfl
      | some u =>
        have e' : b = a := hA b (by rw [q]; simp)
        subst e'
        rw [hK (by rw [q]; simp)] at e; cases e)
    have hM : Mod K mg (hidT s₁.heap H) := ⟨hKb, nsK hns, ⟨mb, nsK hb, hbb⟩, let ⟨mc, h1, h2⟩ := hlim; ⟨mc, nsK h1, h2⟩⟩
    have e0 : Env0 P w K mg (hidT s₁.heap H) callerA [] s₁ H := ⟨rfl, hM, fun b o e => of_hidT e, Nat.le_of_eq (hidT_size _ _), trivial, fun b hb => absurd (show b ∈ ([] : List Addr) from hb) (by simp), hok, .of_eq hg⟩
    refine codeAny_mono ((F _ hKb (nsK hns)).run callerA [] s₁ H ⟨[.ref a], []⟩ [.ref a] [.ref a] _ _ hr e0 (hbind s₁ (.ref a)) (.cons rfl .nil) (hsp H hO hS)) fun r s' h => ?_
    cases r with
    | error e => exact (hCX H e s' h).elim
    | ok fl =>
      cases fl with
      | next => exact False.elim h
      | brk => exact False.elim h
      | cont => exact False.elim h
      | ret u =>
        obtain ⟨v, H', os, bare, un, hok', r', q⟩ := h
        have q' : v = .bl true := q
        subst q'
        obtain rfl : u = Value.bool true := r'
        refine ⟨rfl, OldK.of_keep fun b o e => ?_, os, bare⟩
        cases q : H b with
        | none => exact un.keep b o e q (by intro z; exact absurd (show b ∈ ([] : List Addr) from z) (by simp)) (by simp)
        | some u =>
          rcases hO b with z | ⟨ob, xs, z⟩
          · rw [q] at z; cases z
          · have z2 := un.frzs b ob _ z
            obtain ⟨e1, _⟩ := hok b _ z
            obtain ⟨e2, _⟩ := hok' b _ z2
            rw [e] at e1; cases e1
            exact e2
  cases hk : K.lookup a with
  | some o =>
    -- the script is one of the module's own objects
    have e := KX a o hk
    rw [ha] at e
    cases e
    refine core (fun _ => none) (fun _ => .inl rfl) (.inr ⟨_, vs.toArray, _, hk, rfl, rfl, rfl, by rw [List.size_toArray, lenV]; exact hl, by simpa using rv⟩) (fun b u z => by have z' : (none : Option HO) = some u := z; cases z') (fun b z => absurd rfl z) fun z => absurd rfl z
  | none =>
    refine core (fun b => if b = a then some (.frz { cls := .type "list", data := .seq vs.toArray } (.lst (ns.map V.int))) else none) (fun b => ?_) (.inl (.inr ⟨{ cls := .type "list", data := .seq vs.toArray }, if_pos rfl⟩)) (fun b u z => ?_) (fun b z => ?_) fun _ => hk
    · by_cases hb : b = a
      · exact .inr ⟨_, _, if_pos hb⟩
      · exact .inl (if_neg hb)
    · by_cases hb : b = a
      · have z' := (if_pos hb).symm.trans z
        cases z'
        subst hb
        exact ⟨ha, by rw [List.length_map]; exact hl, vs, _, rv, ha⟩
      · have z' := (if_neg hb).symm.trans z
        cases z'
    · by_cases hb : b = a
      · exact hb
      · exact absurd (if_neg hb) z
end L2

namespace L2
open PySem PySem.Spec PyProof.Rows

abbrev KOf {K : PySem.W.Frag} {h : Heap} (_ : K.In h) : PySem.W.Frag := K

theorem walk_of {l : PySem.W.OpenLaw} {n k : Nat} {q : Program} {loose : List Str} {XP : (Str → Option Value) → Heap → Prop} {YP : World → Heap → Prop} {d : DefRec} {K : Params → PySem.W.Frag} {CX : World → CXT} {sp : World → Sp} {x : Str}
    (hn : l.most = some n) (hn2 : n ≤ sizeLine) (hdf : d.params.defaults = []) (hr : Room k callerA)
    (hY : ∀ (w : World) (h : Heap), YP w h → (K w.params).In h)
    (F : ∀ (w : World) (mg : Str → Option Value) (fa : Addr) (h : Heap), (K w.params).In h → h.Ns mainGlobals mg → mg d.name = some (.ref fa) →
      ∃ fd : FuncData, (∀ (s : Shared) (u : Value), BindsTo s fd ⟨[u], []⟩ [(x, u)]) ∧
        ∀ base : Heap, (K w.params).In base → base.Ns mainGlobals mg → FnOk l.prog w (K w.params) mg base (CX w) k fa fd [x] (sp w))
    (hsp : ∀ (w : World) (H : Hp) (a : Addr) (ns : List Int), ns.length ≤ n → Only H → SqL (K w.params) H a (ns.map V.int) → sp w [.ref a] H (fun v _ => v = .bl true) fun _ _ _ => False)
    (hCX : ∀ (w : World) (H : Hp) (s : Shared) (e : Value) (s' : Shared), CX w [] H s (fun _ _ _ => False) e s' → False) :
    PySem.W.WalkO q loose XP YP l.row.toRowW d [] (fun f vs => PySem.call f vs) := by
  refine Att.attach_call hn hdf fun w s₀ s₁ mg mb fa o pm cd doc a vs ns G Y ho hd hcd hmg hobj hints hlen hg => ?_
  have KX := hY w _ Y
  obtain ⟨fd, hb, hF⟩ := F w mg fa _ KX G.T.g hmg
  exact law_call KX G.T.g G.T.b G.T.builtins G.T.nolimit hg hobj hints (Nat.le_trans hlen hn2) hr hF hb (fun H hO hS => hsp w H a ns hlen hO hS) fun H e s' => hCX w H s₁ e s'
theorem walk_ofK {l : PySem.W.OpenLaw} {n k : Nat} {q : Program} {loose : List Str} {XP : (Str → Option Value) → Heap → Prop} {YP : World → Heap → Prop} {d : DefRec} {K : Params → PySem.W.Frag} {CX : CXT} {sp : PySem.W.Frag → Sp} {x : Str}
    (hn : l.most = some n) (hn2 : n ≤ sizeLine) (hdf : d.params.defaults = []) (hr : Room k callerA)
    (hY : ∀ (w : World) (h : Heap), YP w h → (K w.params).In h)
    (F : ∀ (w : World) (mg : Str → Option Value) (fa : Addr) (h : Heap), (K w.params).In h → h.Ns mainGlobals mg → mg d.name = some (.ref fa) →
      ∃ fd : FuncData, (∀ (s : Shared) (u : Value), BindsTo s fd ⟨[u], []⟩ [(x, u)]) ∧
        ∀ base : Heap, (K w.params).In base → base.Ns mainGlobals mg → FnOk l.prog w (K w.params) mg base CX k fa fd [x] (sp (K w.params)))
    (hsp : ∀ (K : PySem.W.Frag) (H : Hp) (a : Addr) (ns : List Int), ns.length ≤ n → Only H → SqL K H a (ns.map V.int) → sp K [.ref a] H (fun v _ => v = .bl true) fun _ _ _ => False)
    (hCX : ∀ (H : Hp) (s : Shared) (e : Value) (s' : Shared), CX [] H s (fun _ _ _ => False) e s' → False) :
    PySem.W.WalkO q loose XP YP l.row.toRowW d [] (fun f vs => PySem.call f vs) :=
  walk_of (K := K) (CX := fun _ => CX) (sp := fun w => sp (K w.params)) hn hn2 hdf hr hY F (fun w H a ns h1 h2 h3 => hsp (K w.params) H a ns h1 h2 h3) fun _ H s e s' => hCX H s e s'
end L2

namespace L2
open PySem PySem.Spec PyProof.Rows

def defArgs (s : Stmt) : Arguments := match s with
  | .FunctionDef _ a _ _ _ _ _ _ _ _ => a
  | _ => { posonlyargs := [], args := [], vararg := none, kwonlyargs := [], kw_defaults := [], kwarg := none, defaults := [] }
def defBody (s : Stmt) : List Stmt := match s with
  | .FunctionDef _ _ b _ _ _ _ _ _ _ => b
  | _ => []
def defScope (s : Stmt) : Scope := match s with
  | .FunctionDef _ _ _ _ _ _ sc _ _ _ => sc
  | _ => { kind := .function, names := [], isGenerator := false, isCoroutine := false }

abbrev CX0 : CXT := fun _ _ _ _ _ _ => False
abbrev E0 : XK := fun _ _ _ => False
theorem pass0 {X : Cx} : Passes CX0 X E0 := fun _ _ _ _ _ _ _ h => h.elim

structure Fun (K : PySem.W.Frag) (x qual : Str) (st : Stmt) (f : Addr) (fd : FuncData) : Prop where
  ex : ∃ (oc : Value) (od : Option Addr) (kV doc pm : Value) (an : Option Addr) (cdv ct : Value) (osl : Array (Option Value)),
    fd = PySem.W.fnOf x qual (defArgs st) (defBody st) (defScope st) .none kV doc pm an cdv ct ∧ K.lookup f = some ⟨oc, od, .func fd, osl⟩ ∧ PySem.W.codeIn K cdv qual = true
  kp : PySem.W.keepIn K (.ref f) = true
section
variable {P : Program} {w : World} {K : PySem.W.Frag} {mg : Str → Option Value} {base : Heap}
theorem Fun.ok {x qual : Str} {st : Stmt} {f : Addr} {fd : FuncData} {N ps : List Str} {k : Nat} {sp : Sp} (F : Fun K x qual st f fd) (S : FnScope N ps (defScope st)) (len : ∀ vs H Q E, sp vs H Q E → vs.length = ps.length)
    (hbody : ∀ (cdv : Value) (A : Around) (outer : List Env) (s : Shared) (H : Hp) (vs : List V) (Q : VK) (E : XK), Room k (A.deeper (envOfC qual (defScope st) s.heap.objs.size f cdv)) → sp vs H Q E →
      ∃ t, PSs (cxOf CX0 P w K mg base N qual (defScope st) f cdv A outer s H E).nox (defBody st) t ∧ t { nx := fun _ H' => Q .non H', rt := Q } (start N vs) H) : FnOk P w K mg base CX0 (k + 1) f fd ps sp := by
  obtain ⟨oc, od, kV, doc, pm, an, cdv, ct, osl, rfl, lk, hcd⟩ := F.ex
  refine fn_of lk hcd S len fun A outer s H vs Q E hr hsp => ?_
  obtain ⟨t, h, q⟩ := hbody cdv A outer s H vs Q E hr hsp
  exact ⟨t, h.nox, q⟩
theorem Fun.binds {x qual : Str} {st : Stmt} {f : Addr} {fd : FuncData} {ps : List Str} (F : Fun K x qual st f fd)
    (h : ∀ (kV doc pm : Value) (an : Option Addr) (cdv ct : Value) (us : List Value), us.length = ps.length → bindArgs (PySem.W.fnOf x qual (defArgs st) (defBody st) (defScope st) .none kV doc pm an cdv ct) ⟨us, []⟩ = pure (ps.zip us)) : Binds K fd ps [] := by
  obtain ⟨oc, od, kV, doc, pm, an, cdv, ct, osl, rfl, lk, hcd⟩ := F.ex
  exact .all (h kV doc pm an cdv ct)
theorem fun_mk {x qual : Str} {st : Stmt} {f : Addr} {oc : Value} {od an : Option Addr} {osl : Array (Option Value)} {kV doc pm cdv ct : Value} (l : K.lookup f = some ⟨oc, od, .func (PySem.W.fnOf x qual (defArgs st) (defBody st) (defScope st) .none kV doc pm an cdv ct), osl⟩)
    (c : PySem.W.codeIn K cdv qual = true) (k : PySem.W.keepIn K (.ref f) = true) : Fun K x qual st f (PySem.W.fnOf x qual (defArgs st) (defBody st) (defScope st) .none kV doc pm an cdv ct) := ⟨⟨oc, od, kV, doc, pm, an, cdv, ct, osl, rfl, l, c⟩, k⟩
end
theorem hu_of {A : Around} {k : Nat} (hr : Room k A) : A.units + 1 < cLine := Nat.lt_of_le_of_lt (Nat.add_le_add_left (by decide : 1 ≤ 64) _) hr.units
section
variable {X : Cx}
theorem pv (i : Nat) {x : Str} {pos : Pos} (hN : X.N[i]? = some x := by rfl) (hv : Vis X.env.scope x := by first | exact Or.inl rfl | exact Or.inr (Or.inl rfl) | exact Or.inr (Or.inr rfl)) (hd : (x == ("__debug__" : Str)) = false := by decide)
    (hcd : (x == ("__classdict__" : Str)) = false := by decide) : PE X (.Name x pos) (tVar i) := pe_var hN hv hd hcd
end

theorem iteF {A B : Prop} (h : B) : if false = true then A else B := by
  rw [if_neg Bool.false_ne_true]
  exact h
theorem iteT {A B : Prop} (h : A) : if true = true then A else B := by
  rw [if_pos rfl]
  exact h
theorem iteNS {c A B : Prop} [Decidable c] (hc : c) (h : B) : if (!decide c) = true then A else B := by
  rw [decide_eq_true hc]
  exact iteF h

def Same (H H' : Hp) : Prop := ∀ b o, H b = some o → H' b = some o
theorem Same.refl (H : Hp) : Same H H := fun _ _ h => h
theorem Same.trans {H H1 H2 : Hp} (a : Same H H1) (b : Same H1 H2) : Same H H2 := fun c o h => b c o (a c o h)
theorem Same.free {H H' : Hp} (e : Same H H') {l : Addr} (h : H' l = Option.none) : H l = Option.none := by
  cases q : H l with
  | none => rfl
  | some o =>
    rw [e l o q] at h
    cases h
theorem Same.seq {K : PySem.W.Frag} {H H' : Hp} {a : Addr} {xs : List V} (e : Same H H') (h : SqL K H a xs) : SqL K H' a xs := by
  rcases h with (h | ⟨o, h⟩) | h
  · exact .inl (.inl (e _ _ h))
  · exact .inl (.inr ⟨o, e _ _ h⟩)
  · exact .inr h

end L2
set_option Elab.async false
set_option linter.all false
set_option maxRecDepth 100000
set_option maxHeartbeats 4000000
namespace L2
open PySem PySem.Spec PyProof.Rows

inductive Da where
  | fl (v : V)
  | tup (ds : List Da)
  | lst (ds : List Da)
mutual
def Isd (K : PySem.W.Frag) (H : Hp) : Da → V → Prop
  | .fl x, v => v = x ∧ flatV x = true
  | .tup ds, v => ∃ a xs, v = .ref a ∧ SqT K H a xs ∧ Isds K H ds xs
  | .lst ds, v => ∃ a xs, v = .ref a ∧ SqL K H a xs ∧ Isds K H ds xs
def Isds (K : PySem.W.Frag) (H : Hp) : List Da → List V → Prop
  | [], xs => xs = []
  | d :: ds, xs => ∃ v vs, xs = v :: vs ∧ Isd K H d v ∧ Isds K H ds vs
end
mutual
def eqD : Da → Da → Bool
  | .fl x, .fl y => eqV x y
  | .tup a, .tup b => eqDs a b
  | .lst a, .lst b => eqDs a b
  | _, _ => false
def eqDs : List Da → List Da → Bool
  | [], [] => true
  | a :: r, b :: t => eqD a b && eqDs r t
  | _, _ => false
end
mutual
def depD : Da → Nat
  | .fl _ => 0
  | .tup ds => depDs ds + 1
  | .lst ds => depDs ds + 1
def depDs : List Da → Nat
  | [] => 0
  | d :: ds => max (depD d) (depDs ds)
end
theorem Isds.len {K : PySem.W.Frag} {H : Hp} : ∀ {ds : List Da} {xs : List V}, Isds K H ds xs → ds.length = xs.length
  | [], xs, h => by unfold Isds at h; subst h; rfl
  | d :: ds, xs, h => by
    unfold Isds at h
    obtain ⟨v, vs, rfl, _, t⟩ := h
    rw [List.length_cons, List.length_cons, Isds.len t]
theorem Isds.get {K : PySem.W.Frag} {H : Hp} : ∀ {ds : List Da} {xs : List V} {i : Nat} {d : Da} {v : V}, Isds K H ds xs → ds[i]? = some d → xs[i]? = some v → Isd K H d v
  | [], _, _, _, _, _, e, _ => by simp at e
  | d :: ds, xs, 0, _, _, h, e, q => by
    unfold Isds at h
    obtain ⟨v, vs, rfl, hd, t⟩ := h
    simp at e q
    subst e q
    exact hd
  | d :: ds, xs, i + 1, _, _, h, e, q => by
    unfold Isds at h
    obtain ⟨v, vs, rfl, hd, t⟩ := h
    exact Isds.get t (by simpa using e) (by simpa using q)
theorem eqV_refl {x : V} (h : flatV x = true) : eqV x x = true := by
  cases x with
  | non => rfl
  | bl b => show (b == b) = true; simp
  | int i => show (i == i) = true; simp
  | str z => show (z == z) = true; simp
  | _ => exact absurd (show false = true from h) Bool.false_ne_true
section
variable {X : Cx} {pins : List (Addr × Obj)} {σ : St} {H : Hp} {s : Shared}
theorem Inv.lst_tup (I : Inv X pins σ H s) {a : Addr} {xs ys : List V} (h : SqL X.K H a xs) (h' : SqT X.K H a ys) : False := by
  obtain ⟨its, _, ⟨o1, n1, e1, c1, _⟩, _⟩ := I.list h
  obtain ⟨its2, _, ⟨o, e2, c2, _⟩, _⟩ := I.tuple h'
  rw [e1] at e2
  cases e2
  rw [c1] at c2
  exact absurd (Value.type.inj c2) (by decide)
theorem Isd.flat_ref {K : PySem.W.Frag} {a : Addr} {x : V} (h : Isd K H (.fl x) (.ref a)) : False := by
  unfold Isd at h
  obtain ⟨e, f⟩ := h
  subst e
  exact absurd (show false = true from f) Bool.false_ne_true
mutual
theorem Isd.inj (I : Inv X pins σ H s) : ∀ (d e : Da) {v : V}, Isd X.K H d v → Isd X.K H e v → d = e
  | .fl x, .fl y, v, h, q => by
    unfold Isd at h q
    rw [← h.1, ← q.1]
  | .fl x, .tup ys, v, h, q => by
    unfold Isd at q
    obtain ⟨a, zs, e, _⟩ := q
    subst e
    exact h.flat_ref.elim
  | .fl x, .lst ys, v, h, q => by
    unfold Isd at q
    obtain ⟨a, zs, e, _⟩ := q
    subst e
    exact h.flat_ref.elim
  | .tup xs, .fl y, v, h, q => by
    unfold Isd at h
    obtain ⟨a, zs, e, _⟩ := h
    subst e
    exact q.flat_ref.elim
  | .lst xs, .fl y, v, h, q => by
    unfold Isd at h
    obtain ⟨a, zs, e, _⟩ := h
    subst e
    exact q.flat_ref.elim
  | .tup xs, .tup ys, v, h, q => by
    unfold Isd at h q
    obtain ⟨a, us, e, ha, hs⟩ := h
    obtain ⟨b, ws, e', hb, qs⟩ := q
    subst e
    cases e'
    rw [I.tuple_inj ha hb] at hs
    rw [Isds.inj I xs ys hs qs]
  | .lst xs, .lst ys, v, h, q => by
    unfold Isd at h q
    obtain ⟨a, us, e, ha, hs⟩ := h
    obtain ⟨b, ws, e', hb, qs⟩ := q
    subst e
    cases e'
    rw [I.list_inj ha hb] at hs
    rw [Isds.inj I xs ys hs qs]
  | .tup xs, .lst ys, v, h, q => by
    unfold Isd at h q
    obtain ⟨a, us, e, ha, hs⟩ := h
    obtain ⟨b, ws, e', hb, qs⟩ := q
    subst e
    cases e'
    exact (I.lst_tup hb ha).elim
  | .lst xs, .tup ys, v, h, q => by
    unfold Isd at h q
    obtain ⟨a, us, e, ha, hs⟩ := h
    obtain ⟨b, ws, e', hb, qs⟩ := q
    subst e
    cases e'
    exact (I.lst_tup ha hb).elim
theorem Isds.inj (I : Inv X pins σ H s) : ∀ (ds es : List Da) {vs : List V}, Isds X.K H ds vs → Isds X.K H es vs → ds = es
  | [], [], _, _, _ => rfl
  | [], e :: es, vs, h, q => by
    unfold Isds at h q
    obtain ⟨v, r, e1, _⟩ := q
    rw [h] at e1; cases e1
  | d :: ds, [], vs, h, q => by
    unfold Isds at h q
    obtain ⟨v, r, e1, _⟩ := h
    rw [q] at e1; cases e1
  | d :: ds, e :: es, vs, h, q => by
    unfold Isds at h q
    obtain ⟨v, r, e1, h1, h2⟩ := h
    obtain ⟨v', r', e2, q1, q2⟩ := q
    subst e1
    cases e2
    rw [Isd.inj I d e h1 q1, Isds.inj I ds es h2 q2]
end
mutual
theorem eqD_refl {K : PySem.W.Frag} : ∀ (d : Da) {v : V}, Isd K H d v → eqD d d = true
  | .fl x, v, h => by
    unfold Isd at h
    unfold eqD
    exact eqV_refl h.2
  | .tup ds, v, h => by
    unfold Isd at h
    obtain ⟨_, _, _, _, hs⟩ := h
    unfold eqD
    exact eqDs_refl ds hs
  | .lst ds, v, h => by
    unfold Isd at h
    obtain ⟨_, _, _, _, hs⟩ := h
    unfold eqD
    exact eqDs_refl ds hs
theorem eqDs_refl {K : PySem.W.Frag} : ∀ (ds : List Da) {vs : List V}, Isds K H ds vs → eqDs ds ds = true
  | [], _, _ => by unfold eqDs; rfl
  | d :: ds, vs, h => by
    unfold Isds at h
    obtain ⟨_, _, _, h1, h2⟩ := h
    unfold eqDs
    rw [eqD_refl d h1, eqDs_refl ds h2]
    rfl
end
theorem eqDs_all : ∀ (ds es : List Da), ds.length = es.length → (List.range ds.length).all (fun j => match ds[j]?, es[j]? with | some a, some b => eqD a b | _, _ => false) = eqDs ds es
  | [], [], _ => by unfold eqDs; rfl
  | [], _ :: _, h => by simp at h
  | _ :: _, [], h => by simp at h
  | d :: ds, e :: es, h => by
    have ih := eqDs_all ds es (by simpa using h)
    unfold eqDs
    rw [← ih, List.length_cons, List.range_succ_eq_map, List.all_cons, List.all_map]
    simp only [List.getElem?_cons_zero, Function.comp_def, List.getElem?_cons_succ]
theorem eqDs_len : ∀ (ds es : List Da), ds.length ≠ es.length → eqDs ds es = false
  | [], [], h => by simp at h
  | [], _ :: _, _ => by unfold eqDs; rfl
  | _ :: _, [], _ => by unfold eqDs; rfl
  | d :: ds, e :: es, h => by
    unfold eqDs
    rw [eqDs_len ds es (by simpa using h), Bool.and_false]
theorem depD_mem : ∀ {ds : List Da} {d : Da} {j : Nat}, ds[j]? = some d → depD d ≤ depDs ds
  | [], _, _, h => by simp at h
  | d :: ds, _, 0, h => by
    simp at h
    subst h
    unfold depDs
    omega
  | d :: ds, e, j + 1, h => by
    have := depD_mem (ds := ds) (d := e) (j := j) (by simpa using h)
    unfold depDs
    omega
def atE (ds es : List Da) (j : Nat) : Bool := match ds[j]?, es[j]? with
  | some a, some b => eqD a b
  | _, _ => false
theorem items_D {K : PySem.W.Frag} {n : Nat} {A : Around} (hE : ∀ (d e : Da) (v x : V) (u w : Value), depD d ≤ n → Isd K H d v → Isd K H e x → RelV v u → RelV x w → SeqAt.EqAt A s u w (eqD d e)) {ds es : List Da} {xs ys : List V} {us ws : List Value} (hdp : depDs ds ≤ n)
    (h1 : Isds K H ds xs) (h2 : Isds K H es ys) (r1 : Vals xs us) (r2 : Vals ys ws) (j : Nat) (l1 : j < us.toArray.size) (l2 : j < ws.toArray.size) : SeqAt.EqAt A s us.toArray[j] ws.toArray[j] (atE ds es j) := by
  have l1' : j < us.length := by simpa using l1
  have l2' : j < ws.length := by simpa using l2
  have q1 := h1.len
  have q2 := h2.len
  have q3 := r1.length
  have q4 := r2.length
  have a1 : ds[j]? = some ds[j] := List.getElem?_eq_getElem (by omega)
  have a2 : es[j]? = some es[j] := List.getElem?_eq_getElem (by omega)
  have a3 : xs[j]? = some xs[j] := List.getElem?_eq_getElem (by omega)
  have a4 : ys[j]? = some ys[j] := List.getElem?_eq_getElem (by omega)
  obtain ⟨u1, b1, c1⟩ := r1.get a3
  obtain ⟨w1, b2, c2⟩ := r2.get a4
  have e1 : us.toArray[j] = u1 := by
    have : us[j] = u1 := by rw [List.getElem?_eq_getElem l1'] at b1; exact Option.some.inj b1
    simpa using this
  have e2 : ws.toArray[j] = w1 := by
    have : ws[j] = w1 := by rw [List.getElem?_eq_getElem l2'] at b2; exact Option.some.inj b2
    simpa using this
  rw [e1, e2]
  unfold atE
  rw [a1, a2]
  exact hE ds[j] es[j] _ _ _ _ (Nat.le_trans (depD_mem a1) hdp) (h1.get a1 a3) (h2.get a2 a4) c1 c2
theorem eqAt_D (I : Inv X pins σ H s) : ∀ (n : Nat) (d e : Da) {A : Around} {v x : V} {u w : Value}, depD d ≤ n → Isd X.K H d v → Isd X.K H e x → RelV v u → RelV x w → A.units + n < cLine → SeqAt.EqAt A s u w (eqD d e) := by
  intro n
  induction n with
  | zero =>
    intro d e A v x u w hn hd he ru rw' hu
    cases d with
    | tup ds => unfold depD at hn; omega
    | lst ds => unfold depD at hn; omega
    | fl y =>
      unfold Isd at hd
      obtain ⟨rfl, fy⟩ := hd
      cases e with
      | fl z =>
        unfold Isd at he
        obtain ⟨rfl, fz⟩ := he
        unfold eqD
        exact eqAt_V ru rw' fy fz
      | tup es =>
        unfold Isd at he
        obtain ⟨a, xs, rfl, ha, _⟩ := he
        obtain ⟨its, _, p, _⟩ := I.tuple ha
        cases rw'
        have p' : s.heap.IsTuple a its.toArray := p
        cases v with
        | non => cases ru; exact SeqAt.EqAt.none_tuple p' (by omega)
        | bl b => cases ru; exact SeqAt.EqAt.bool_tuple b p' (by omega)
        | int i => obtain ⟨t, rfl⟩ := ru; exact SeqAt.EqAt.int_tuple i t p' (by omega)
        | str z => obtain ⟨t, rfl⟩ := ru; exact SeqAt.EqAt.str_tuple z t p' (by omega)
        | _ => exact absurd (show false = true from fy) Bool.false_ne_true
      | lst es =>
        unfold Isd at he
        obtain ⟨a, xs, rfl, ha, _⟩ := he
        obtain ⟨its, _, p, _⟩ := I.list ha
        cases rw'
        have p' := p.isList
        cases v with
        | non => cases ru; exact SeqAt.EqAt.none_list p' (by omega)
        | bl b => cases ru; exact SeqAt.EqAt.bool_list b p' (by omega)
        | int i => obtain ⟨t, rfl⟩ := ru; exact SeqAt.EqAt.int_list i t p' (by omega)
        | str z => obtain ⟨t, rfl⟩ := ru; exact SeqAt.EqAt.str_list z t p' (by omega)
        | _ => exact absurd (show false = true from fy) Bool.false_ne_true
  | succ n ih =>
    intro d e A v x u w hn hd he ru rw' hu
    have items : ∀ {ds es : List Da} {xs ys : List V} {us ws : List Value}, depDs ds ≤ n → Isds X.K H ds xs → Isds X.K H es ys → Vals xs us → Vals ys ws →
        ∀ j (h1 : j < us.toArray.size) (h2 : j < ws.toArray.size), SeqAt.EqAt A.in1 s us.toArray[j] ws.toArray[j] (atE ds es j) :=
      items_D (n := n) fun d e v x u w h1 h2 h3 h4 h5 => ih d e h1 h2 h3 h4 h5 (by show A.units + 1 + n < cLine; omega)
    cases d with
    | fl y =>
      exact ih (.fl y) e (by unfold depD; omega) hd he ru rw' (by omega)
    | tup ds =>
      cases e with
      | fl z =>
        unfold Isd at hd he
        obtain ⟨a, xs, rfl, ha, _⟩ := hd
        obtain ⟨rfl, fz⟩ := he
        obtain ⟨its, _, p, _⟩ := I.tuple ha
        cases ru
        have p' : s.heap.IsTuple a its.toArray := p
        cases x with
        | non => cases rw'; exact SeqAt.EqAt.tuple_none p' (by omega)
        | bl b => cases rw'; exact SeqAt.EqAt.tuple_bool b p' (by omega)
        | int i => obtain ⟨t, rfl⟩ := rw'; exact SeqAt.EqAt.tuple_int i t p' (by omega)
        | str z => obtain ⟨t, rfl⟩ := rw'; exact SeqAt.EqAt.tuple_str z t p' (by omega)
        | _ => exact absurd (show false = true from fz) Bool.false_ne_true
      | tup es =>
        have hd0 := hd
        have he0 := he
        unfold Isd at hd he
        obtain ⟨a, xs, rfl, ha, hs⟩ := hd
        obtain ⟨b, ys, rfl, hb, qs⟩ := he
        cases ru
        cases rw'
        by_cases hab : a = b
        · subst hab
          rw [← Isd.inj I (.tup ds) (.tup es) hd0 he0, eqD_refl _ hd0]
          exact SeqAt.EqAt.same _
        · obtain ⟨us, r1, p1, _⟩ := I.tuple ha
          obtain ⟨ws, r2, p2, _⟩ := I.tuple hb
          have hdp : depDs ds ≤ n := by unfold depD at hn; omega
          have key := SeqAt.RcAt.tuples (A := A) (e := atE ds es) (show s.heap.IsTuple a us.toArray from p1) (show s.heap.IsTuple b ws.toArray from p2) (by omega) (items hdp hs qs r1 r2)
          have ev : ((List.range (min us.toArray.size ws.toArray.size)).all (atE ds es) && us.toArray.size == ws.toArray.size) = eqD (.tup ds) (.tup es) := by
            have q1 := hs.len
            have q2 := qs.len
            have q3 := r1.length
            have q4 := r2.length
            have z1 : us.toArray.size = ds.length := by simp; omega
            have z2 : ws.toArray.size = es.length := by simp; omega
            unfold eqD
            rw [z1, z2]
            by_cases hl : ds.length = es.length
            · rw [← eqDs_all ds es hl, hl, Nat.min_self, beq_self_eq_true, Bool.and_true]
              rfl
            · rw [eqDs_len ds es hl, beq_eq_false_iff_ne.mpr hl, Bool.and_false]
          rw [ev] at key
          exact SeqAt.EqAt.of_refs hab key
      | lst es =>
        unfold Isd at hd he
        obtain ⟨a, xs, rfl, ha, hs⟩ := hd
        obtain ⟨b, ys, rfl, hb, qs⟩ := he
        cases ru
        cases rw'
        obtain ⟨us, r1, p1, _⟩ := I.tuple ha
        obtain ⟨ws, r2, p2, _⟩ := I.list hb
        unfold eqD
        exact SeqAt.EqAt.tuple_list (show s.heap.IsTuple a us.toArray from p1) p2.isList (by omega)
    | lst ds =>
      cases e with
      | fl z =>
        unfold Isd at hd he
        obtain ⟨a, xs, rfl, ha, _⟩ := hd
        obtain ⟨rfl, fz⟩ := he
        obtain ⟨its, _, p, _⟩ := I.list ha
        cases ru
        have p' := p.isList
        cases x with
        | non => cases rw'; exact SeqAt.EqAt.list_none p' (by omega)
        | bl b => cases rw'; exact SeqAt.EqAt.list_bool b p' (by omega)
        | int i => obtain ⟨t, rfl⟩ := rw'; exact SeqAt.EqAt.list_int i t p' (by omega)
        | str z => obtain ⟨t, rfl⟩ := rw'; exact SeqAt.EqAt.list_str z t p' (by omega)
        | _ => exact absurd (show false = true from fz) Bool.false_ne_true
      | tup es =>
        unfold Isd at hd he
        obtain ⟨a, xs, rfl, ha, hs⟩ := hd
        obtain ⟨b, ys, rfl, hb, qs⟩ := he
        cases ru
        cases rw'
        obtain ⟨us, r1, p1, _⟩ := I.list ha
        obtain ⟨ws, r2, p2, _⟩ := I.tuple hb
        unfold eqD
        exact SeqAt.EqAt.list_tuple p1.isList (show s.heap.IsTuple b ws.toArray from p2) (by omega)
      | lst es =>
        have hd0 := hd
        have he0 := he
        unfold Isd at hd he
        obtain ⟨a, xs, rfl, ha, hs⟩ := hd
        obtain ⟨b, ys, rfl, hb, qs⟩ := he
        cases ru
        cases rw'
        by_cases hab : a = b
        · subst hab
          rw [← Isd.inj I (.lst ds) (.lst es) hd0 he0, eqD_refl _ hd0]
          exact SeqAt.EqAt.same _
        · obtain ⟨us, r1, p1, _⟩ := I.list ha
          obtain ⟨ws, r2, p2, _⟩ := I.list hb
          have hdp : depDs ds ≤ n := by unfold depD at hn; omega
          have q1 := hs.len
          have q2 := qs.len
          have q3 := r1.length
          have q4 := r2.length
          have z1 : us.toArray.size = ds.length := by simp; omega
          have z2 : ws.toArray.size = es.length := by simp; omega
          by_cases hl : ds.length = es.length
          · have key := SeqAt.RcAt.lists (A := A) (e := atE ds es) p1.isList p2.isList (by rw [z1, z2]; exact hl) (by omega) (items hdp hs qs r1 r2)
            have ev : (List.range us.toArray.size).all (atE ds es) = eqD (.lst ds) (.lst es) := by
              unfold eqD
              rw [z1, ← eqDs_all ds es hl]
              rfl
            rw [ev] at key
            exact SeqAt.EqAt.of_refs hab key
          · have key := SeqAt.RcAt.lists_lengths (A := A) p1.isList p2.isList (by rw [z1, z2]; exact bne_iff_ne.mpr hl) (by omega)
            have ev : false = eqD (.lst ds) (.lst es) := by
              unfold eqD
              rw [eqDs_len ds es hl]
            rw [ev] at key
            exact SeqAt.EqAt.of_refs hab key
theorem all_T {ds es : List Da} {us ws : List Value} (q1 : ds.length = us.length) (q2 : es.length = ws.length) : ((List.range (min us.toArray.size ws.toArray.size)).all (atE ds es) && us.toArray.size == ws.toArray.size) = eqDs ds es := by
  have z1 : us.toArray.size = ds.length := by simp; omega
  have z2 : ws.toArray.size = es.length := by simp; omega
  rw [z1, z2]
  by_cases hl : ds.length = es.length
  · rw [← eqDs_all ds es hl, hl, Nat.min_self, beq_self_eq_true, Bool.and_true]
    rfl
  · rw [eqDs_len ds es hl, beq_eq_false_iff_ne.mpr hl, Bool.and_false]
def rCmpD (K : PySem.W.Frag) (f : Bool → Bool) : R2 := fun x y H Q => ∃ a b xs ys ds es, x = .ref a ∧ y = .ref b ∧ ((SqT K H a xs ∧ SqT K H b ys) ∨ (SqL K H a xs ∧ SqL K H b ys)) ∧ Isds K H ds xs ∧ Isds K H es ys ∧ depDs ds ≤ 50 ∧ Q (.bl (f (eqDs ds es))) H
theorem op_eqD (hu : X.A.units + 64 < cLine) : OpR X (compareOp .Eq) (rCmpD X.K id) := by
  intro pins s σ H x y v u Q I rx ry h
  obtain ⟨a, b, xs, ys, ds, es, rfl, rfl, hq, hs, qs, hd, q⟩ := h
  cases rx
  cases ry
  have items := fun {us ws : List Value} (r1 : Vals xs us) (r2 : Vals ys ws) => items_D (s := s) (H := H) (n := 50) (A := X.A.in1) (fun d e v x u w h1 h2 h3 h4 h5 => eqAt_D I 50 d e h1 h2 h3 h4 h5 (by show X.A.units + 1 + 50 < cLine; omega)) hd hs qs r1 r2
  rcases hq with ⟨ha, hb⟩ | ⟨ha, hb⟩
  · obtain ⟨us, r1, p1, _⟩ := I.tuple ha
    obtain ⟨ws, r2, p2, _⟩ := I.tuple hb
    refine SeqAt.eq_tupleAt (e := atE ds es) (show s.heap.IsTuple a us.toArray from p1) (show s.heap.IsTuple b ws.toArray from p2) (by omega) (items r1 r2) ?_
    rw [all_T (hs.len.trans r1.length) (qs.len.trans r2.length)]
    exact ⟨.bl _, H, I, rfl, q⟩
  · obtain ⟨us, r1, p1, _⟩ := I.list ha
    obtain ⟨ws, r2, p2, _⟩ := I.list hb
    have z1 : us.toArray.size = ds.length := by have q1 := hs.len; have q3 := r1.length; simp; omega
    have z2 : ws.toArray.size = es.length := by have q1 := qs.len; have q3 := r2.length; simp; omega
    by_cases hl : ds.length = es.length
    · refine SeqAt.eq_listAt (e := atE ds es) p1.isList p2.isList (by rw [z1, z2]; exact hl) (by omega) (items r1 r2) ?_
      have ev : (List.range us.toArray.size).all (atE ds es) = eqDs ds es := by
        rw [z1, ← eqDs_all ds es hl]
        rfl
      rw [ev]
      exact ⟨.bl _, H, I, rfl, q⟩
    · refine SeqAt.eq_list_lengthsAt p1.isList p2.isList (by rw [z1, z2]; exact bne_iff_ne.mpr hl) (by omega) ?_
      have ev : false = eqDs ds es := (eqDs_len ds es hl).symm
      rw [ev]
      exact ⟨.bl _, H, I, rfl, q⟩
theorem op_neD (hu : X.A.units + 64 < cLine) : OpR X (compareOp .NotEq) (rCmpD X.K not) := by
  intro pins s σ H x y v u Q I rx ry h
  obtain ⟨a, b, xs, ys, ds, es, rfl, rfl, hq, hs, qs, hd, q⟩ := h
  cases rx
  cases ry
  have items := fun {us ws : List Value} (r1 : Vals xs us) (r2 : Vals ys ws) => items_D (s := s) (H := H) (n := 50) (A := X.A.in1) (fun d e v x u w h1 h2 h3 h4 h5 => eqAt_D I 50 d e h1 h2 h3 h4 h5 (by show X.A.units + 1 + 50 < cLine; omega)) hd hs qs r1 r2
  rcases hq with ⟨ha, hb⟩ | ⟨ha, hb⟩
  · obtain ⟨us, r1, p1, _⟩ := I.tuple ha
    obtain ⟨ws, r2, p2, _⟩ := I.tuple hb
    refine SeqAt.RcNeAt.tuples (e := atE ds es) (show s.heap.IsTuple a us.toArray from p1) (show s.heap.IsTuple b ws.toArray from p2) (by omega) (items r1 r2) _ _ _ _ ?_
    rw [all_T (hs.len.trans r1.length) (qs.len.trans r2.length)]
    exact ⟨.bl _, H, I, rfl, q⟩
  · obtain ⟨us, r1, p1, _⟩ := I.list ha
    obtain ⟨ws, r2, p2, _⟩ := I.list hb
    have z1 : us.toArray.size = ds.length := by have q1 := hs.len; have q3 := r1.length; simp; omega
    have z2 : ws.toArray.size = es.length := by have q1 := qs.len; have q3 := r2.length; simp; omega
    by_cases hl : ds.length = es.length
    · refine SeqAt.RcNeAt.lists (e := atE ds es) p1.isList p2.isList (by rw [z1, z2]; exact hl) (by omega) (items r1 r2) _ _ _ _ ?_
      have ev : (List.range us.toArray.size).all (atE ds es) = eqDs ds es := by
        rw [z1, ← eqDs_all ds es hl]
        rfl
      rw [ev]
      exact ⟨.bl _, H, I, rfl, q⟩
    · refine SeqAt.RcNeAt.lists_lengths p1.isList p2.isList (by rw [z1, z2]; exact bne_iff_ne.mpr hl) (by omega) _ _ _ _ ?_
      have ev : true = !eqDs ds es := by rw [eqDs_len ds es hl]; rfl
      rw [ev]
      exact ⟨.bl _, H, I, rfl, q⟩
end
end L2
set_option Elab.async false
set_option linter.all false
set_option maxRecDepth 100000
set_option maxHeartbeats 4000000
namespace L2
open PySem PySem.Spec PyProof.Rows

theorem clos_loop (env : Env) : ∀ (names : List (Str × NameKind)) (cs : List (Str × Addr)), (∀ x, (x, NameKind.free) ∈ names → ∃ c, env.cells.lookup x = some c) →
    (∀ x c, cs.lookup x = some c → env.cells.lookup x = some c) →
    ∃ cl : List (Str × Addr), (forIn names cs fun (x : Str × NameKind) (r : List (Str × Addr)) => if (x.snd == NameKind.free) = true then do let a ← cellOf env x.fst; pure (ForInStep.yield ((x.fst, a) :: r)) else (pure (ForInStep.yield r) : Sem _)) = (pure cl : Sem _) ∧
      (∀ x c, cl.lookup x = some c → env.cells.lookup x = some c) ∧ ∀ x, ((x, NameKind.free) ∈ names ∨ ∃ c, cs.lookup x = some c) → ∃ c, cl.lookup x = some c
  | [], cs, _, h2 => ⟨cs, rfl, h2, fun x hx => hx.elim (fun z => nomatch z) fun z => z⟩
  | (n, k) :: r, cs, h1, h2 => by
    cases hk : (k == NameKind.free) with
    | true =>
      have ek : k = .free := by simpa using hk
      subst ek
      obtain ⟨c, hc⟩ := h1 n List.mem_cons_self
      obtain ⟨cl, e, a, b⟩ := clos_loop env r ((n, c) :: cs) (fun x hx => h1 x (List.mem_cons_of_mem _ hx)) (fun x d hd => by
        rw [List.lookup_cons] at hd
        cases hx : x == n with
        | true =>
          rw [hx] at hd
          have : x = n := by simpa using hx
          subst this
          cases hd
          exact hc
        | false => rw [hx] at hd; exact h2 x d hd)
      refine ⟨cl, ?_, a, fun x hx => b x ?_⟩
      · rw [← e, List.forIn_cons]
        have hcell : cellOf env n = pure c := by unfold cellOf; rw [hc]
        simp only [hk, if_true]
        rw [hcell]
        rfl
      · rcases hx with hx | ⟨d, hd⟩
        · rcases List.mem_cons.mp hx with q | q
          · cases q
            exact .inr ⟨c, by rw [List.lookup_cons]; simp⟩
          · exact .inl q
        · refine .inr ?_
          rw [List.lookup_cons]
          cases hx : x == n with
          | true => exact ⟨c, rfl⟩
          | false => exact ⟨d, hd⟩
    | false =>
      obtain ⟨cl, e, a, b⟩ := clos_loop env r cs (fun x hx => h1 x (List.mem_cons_of_mem _ hx)) h2
      refine ⟨cl, ?_, a, fun x hx => b x ?_⟩
      · rw [← e, List.forIn_cons]
        simp only [hk, Bool.false_eq_true, if_false]
        rfl
      · rcases hx with hx | hx
        · rcases List.mem_cons.mp hx with q | q
          · cases q
            simp at hk
          · exact .inl q
        · exact .inr hx
theorem clos_ok {scope : Scope} {env : Env} (h1 : ∀ x, (x, NameKind.free) ∈ scope.names → ∃ c, env.cells.lookup x = some c) :
    ∃ cl : List (Str × Addr), closureFor scope env = pure cl ∧ (∀ x c, cl.lookup x = some c → env.cells.lookup x = some c) ∧ ∀ x, (x, NameKind.free) ∈ scope.names → ∃ c, cl.lookup x = some c := by
  obtain ⟨cl, e, a, b⟩ := clos_loop env scope.names [] h1 (fun x c h => by simp at h)
  refine ⟨cl, ?_, a, fun x hx => b x (.inl hx)⟩
  simp only [closureFor]
  rw [e]
  rfl

def Cx.comp (X : Cx) (sc : Scope) (cl : List (Str × Addr)) (C : Addr) (N : List Str) (s : Shared) (H : Hp) (fp : List Addr) : Cx :=
  { X with N := N, s₀ := s, H₀ := H, env := compEnvC sc cl C X.env, outer := X.stack, ex := fp, fn := fun _ => false, pn := [], xe := fun _ _ => False }
def compChk (N : List Str) (osc sc : Scope) (t : Str) (ys : List Str) (js : List Nat) : Bool :=
  sc.kind == .function && sc.names.all (fun y => y.2 != .cell) && sc.names.all (fun y => y.2 != .local || sc.names.lookup y.1 == some .local) &&
  sc.names.all (fun y => y.2 != .free || osc.names.lookup y.1 == some .cell) && (ys.map some == js.map fun j => N[j]?) &&
  ys.all (fun y => sc.names.lookup y == some .free) && sc.names.lookup t == some .local && decide ((t :: ys).Nodup)
structure CompOk (N : List Str) (osc sc : Scope) (t : Str) (ys : List Str) (js : List Nat) : Prop where
  kind : sc.kind = .function
  ncell : ∀ y ∈ sc.names, y.2 ≠ .cell
  loc : ∀ y ∈ sc.names, y.2 = .local → sc.names.lookup y.1 = some .local
  fre : ∀ y ∈ sc.names, y.2 = .free → osc.names.lookup y.1 = some .cell
  ysj : ys.map some = js.map fun j => N[j]?
  ysf : ∀ y ∈ ys, sc.names.lookup y = some .free
  tl : sc.names.lookup t = some .local
  nd : (t :: ys).Nodup
theorem compOk_of {N : List Str} {osc sc : Scope} {t : Str} {ys : List Str} {js : List Nat} (h : compChk N osc sc t ys js = true) : CompOk N osc sc t ys js := by
  unfold compChk at h
  simp only [Bool.and_eq_true, List.all_eq_true, decide_eq_true_eq, Bool.or_eq_true, bne_iff_ne, beq_iff_eq] at h
  obtain ⟨⟨⟨⟨⟨⟨⟨a, b⟩, c⟩, d⟩, e⟩, f⟩, g⟩, i⟩ := h
  exact ⟨a, fun y hy => b y hy, fun y hy z => (c y hy).resolve_left fun q => q z, fun y hy z => (d y hy).resolve_left fun q => q z, e, f, g, i⟩
def compS (js : List Nat) (σ : St) : St := js.map fun j => (σ[j]?).join

theorem relabel_inv {env : Env} {x : Str} : ∀ {names : List (Str × NameKind)} {k : NameKind}, (names.map fun (n, k) => if (k == NameKind.free && env.scope.kind == .function && env.kindOf n == some .cell) then (n, NameKind.cell) else (n, k)).lookup x = some k →
    names.lookup x = some k ∨ (k = .cell ∧ names.lookup x = some .free)
  | [], _, h => by simp at h
  | (n, q) :: r, k, h => by
    have ih := @relabel_inv env x r k
    have h' : List.lookup x ((if (q == NameKind.free && env.scope.kind == .function && env.kindOf n == some .cell) = true then (n, NameKind.cell) else (n, q)) :: _) = some k := h
    cases hx : x == n with
    | true =>
      by_cases hc : (q == NameKind.free && env.scope.kind == .function && env.kindOf n == some .cell) = true
      · rw [if_pos hc] at h'
        simp only [List.lookup_cons, hx] at h' ⊢
        have eq : q = .free := by simp only [Bool.and_eq_true, beq_iff_eq] at hc; exact hc.1.1
        cases h'
        exact .inr ⟨rfl, by rw [eq]⟩
      · rw [if_neg hc] at h'
        simp only [List.lookup_cons, hx] at h' ⊢
        exact .inl h'
    | false =>
      by_cases hc : (q == NameKind.free && env.scope.kind == .function && env.kindOf n == some .cell) = true
      · rw [if_pos hc] at h'
        simp only [List.lookup_cons, hx] at h' ⊢
        exact ih h'
      · rw [if_neg hc] at h'
        simp only [List.lookup_cons, hx] at h' ⊢
        exact ih h'
theorem relabel_free {env : Env} {x : Str} : ∀ {names : List (Str × NameKind)}, names.lookup x = some .free →
    (names.map fun (n, k) => if (k == NameKind.free && env.scope.kind == .function && env.kindOf n == some .cell) then (n, NameKind.cell) else (n, k)).lookup x = some .cell ∨
    (names.map fun (n, k) => if (k == NameKind.free && env.scope.kind == .function && env.kindOf n == some .cell) then (n, NameKind.cell) else (n, k)).lookup x = some .free
  | [], h => by simp at h
  | (n, q) :: r, h => by
    have ih := @relabel_free env x r
    show List.lookup x ((if (q == NameKind.free && env.scope.kind == .function && env.kindOf n == some .cell) = true then (n, NameKind.cell) else (n, q)) :: _) = some .cell ∨ List.lookup x ((if (q == NameKind.free && env.scope.kind == .function && env.kindOf n == some .cell) = true then (n, NameKind.cell) else (n, q)) :: _) = some .free
    cases hx : x == n with
    | true =>
      simp only [List.lookup_cons, hx] at h
      cases h
      by_cases hc : (NameKind.free == NameKind.free && env.scope.kind == .function && env.kindOf n == some .cell) = true
      · rw [if_pos hc]; exact .inl (by simp only [List.lookup_cons, hx])
      · rw [if_neg hc]; exact .inr (by simp only [List.lookup_cons, hx])
    | false =>
      simp only [List.lookup_cons, hx] at h
      by_cases hc : (q == NameKind.free && env.scope.kind == .function && env.kindOf n == some .cell) = true
      · rw [if_pos hc]; simp only [List.lookup_cons, hx]; exact ih h
      · rw [if_neg hc]; simp only [List.lookup_cons, hx]; exact ih h

def PIf (X : Cx) (ifs : List Expr) (t : TT) : Prop :=
  ∀ (pins : List (Addr × Obj)) (s : Shared) (σ : St) (H : Hp) (Q : Bool → Hp → Prop), Inv X pins σ H s → t σ H Q →
    wpAny (model X.prog X.w) X.A (forIn ifs true fun c r => if r = true then do let ok ← isTrue c X.env (eval c X.env); pure (ForInStep.yield ok) else pure (ForInStep.yield r)) (TP X pins σ Q) X.xe s
def tYes : TT := fun _ H Q => Q true H
theorem pif_nil {X : Cx} : PIf X [] tYes := fun _ _ _ H _ I h => wpAny_tests_nil ⟨H, I, h⟩
theorem comp_turns {prog : Program} {w : World} {A : Around} {R : Result → Shared → Prop} {s : Shared} {elt target iter : Expr} {ifs : List Expr} {scope : Scope} {pos : Pos} {it acc : Value} {env : Env} (J : Nat → Shared → Prop)
    (turn : ∀ n s0, J n s0 → wpAny (model prog w) A (pyNext it) (fun r s1 => match r with
      | none => R (.ok .next) s1
      | some v => wpAny (model prog w) A (letOwnedTupleGo target it v) (fun _ s2 => wpAny (model prog w) A (assign target env v) (fun _ s3 =>
          wpAny (model prog w) A (forIn ifs true fun c r => if r = true then do let ok ← isTrue c env (eval c env); pure (ForInStep.yield ok) else pure (ForInStep.yield r)) (fun ok s4 =>
            if ok = true then wpAny (model prog w) A (eval elt env) (fun x s5 =>
              wpAny (model prog w) A (call (.builtin "list.append") [acc, x]) (fun _ s6 => ∃ m, m < n ∧ J m s6) (fun _ _ => False) s5) (fun _ _ => False) s4
            else ∃ m, m < n ∧ J m s4) (fun _ _ => False) s3) (fun _ _ => False) s2) (fun _ _ => False) s1) (fun _ _ => False) s0)
    (n : Nat) (h : J n s) : codeAny (model prog w) A (.compLoop (.ListComp elt [⟨target, iter, ifs, 0⟩] scope pos) 0 it acc env) R s := by
  have up : ∀ {α : Type} {t : Sem α} {Q Q' : α → Shared → Prop} {E : Value → Shared → Prop} {s0 : Shared}, wpAny (model prog w) A t Q (fun _ _ => False) s0 → (∀ a s', Q a s' → Q' a s') → wpAny (model prog w) A t Q' E s0 :=
    fun h0 hq => wpAny_mono h0 hq fun _ _ z => z.elim
  refine codeAny_loop rfl J ?_ n h
  intro k s0 hJ
  show wpAny _ A ((compTurn (.ListComp elt [⟨target, iter, ifs, 0⟩] scope pos) 0 it acc env).onRaise (fun x => do noteFrame x env; theTreesLotGoes x)) _ _ s0
  refine wpAny_noted ?_
  rw [compTurn_list]
  refine wpAny_bind (wpAny_standAt (wpAny_bind (up (turn k s0 hJ) fun r s1 h1 => ?_)))
  cases r with
  | none => exact wpAny_pure h1
  | some v =>
    refine wpAny_bind (up h1 fun _ s2 h2 => wpAny_bind (up h2 fun _ s3 h3 => wpAny_bind (up h3 fun ok s4 h4 => ?_)))
    cases ok with
    | false => exact wpAny_pure ⟨rfl, h4⟩
    | true => exact wpAny_bind (wpAny_bind (up h4 fun x s5 h5 => wpAny_bind (up h5 fun _ s6 h6 => wpAny_pure (wpAny_pure ⟨rfl, h6⟩))))

def CompW (J : It) (js : List Nat) (tc : TT) (te : TE) (σ : St) (Q : VK) (D : Addr) (H1 : Hp) : Prop := ∃ W : Nat → Nat → List V → Hp → Prop, (∃ m, W 0 m [] (upd H1 D (.lst []))) ∧
  ∀ i m acc H, W i m acc H → H D = some (.lst acc) ∧ acc.length < sizeLine ∧ ((J.stop i H ∧ Q (.ref D) H) ∨ (J.go i H ∧ ∀ x H', J.yld i H x H' → tc (some x :: compS js σ) H' fun c H3 =>
    if c = true then te (some x :: compS js σ) H3 fun y H4 => H4 D = some (.lst acc) ∧ ∃ m', m' < m ∧ W (i + 1) m' (acc ++ [y]) (upd H4 D (.lst (acc ++ [y]))) else ∃ m', m' < m ∧ W (i + 1) m' acc H3))
def tComp (wi : TI) (js : List Nat) (tc : TT) (te : TE) : TE := fun σ H Q => wi σ H fun J H1 => ∀ D, H1 D = none → CompW J js tc te σ Q D H1

theorem pe_comp {X : Cx} {elt iter : Expr} {ifs : List Expr} {sc : Scope} {pos px : Pos} {t : Str} {ys : List Str} {js : List Nat} {wi : TI} {tc : TT} {te : TE} (hc : X.calm = true) (hck : compChk X.N X.env.scope sc t ys js = true)
    (hi : PI X (.Name t px) iter wi) (hf : ∀ cl C s H fp, PIf (X.comp sc cl C (t :: ys) s H fp) ifs tc) (he : ∀ cl C s H fp, PE (X.comp sc cl C (t :: ys) s H fp) elt te)
    (hs : ∀ x, foldedSetIterable iter X.env x = pure x := by intro _; rfl) : PE X (.ListComp elt [⟨.Name t px, iter, ifs, 0⟩] sc pos) (tComp wi js tc te) := by
  have ck := compOk_of hck
  intro pins s σ H Q I h
  have hfr : ∀ x, (x, NameKind.free) ∈ sc.names → ∃ c, X.env.cells.lookup x = some c := fun x hx => I.ok.has x (.inl (ck.fre _ hx rfl))
  obtain ⟨cl, hcl, cl1, cl2⟩ := clos_ok hfr
  rw [eval_ListComp]
  refine wpAny_comprehension_free (use := none) rfl hs hcl ck.kind ck.loc (thn (hi pins s σ H _ I h) fun v s1 h1 => thn h1 fun itv s2 h2 => ?_)
  obtain ⟨it, fp, tn, J, H2, e, I2, T, st2, f2, hR⟩ := h2
  subst e
  refine wpAny_newObj_type (wpAny_newFunctionEnv ck.ncell (by intro y hy; simp at hy) (fun h1 hns hsb => ?_) ck.kind)
  dsimp only at hns hsb ⊢
  generalize hp : s2.heap.push { cls := .type "list", dict := none, data := .seq ([] : List Value).toArray } = hh at hns hsb ⊢
  have hC : hh.objs.size = s2.heap.objs.size + 1 := by rw [← hp, Heap.size_push]
  have neD : ∀ {b : Addr}, b < s2.heap.objs.size → b ≠ s2.heap.objs.size := fun hb => Nat.ne_of_lt hb
  have neC : ∀ {b : Addr}, b < s2.heap.objs.size → b ≠ hh.objs.size := fun hb => by rw [hC]; exact Nat.ne_of_lt (Nat.lt_succ_of_lt hb)
  have hDC : s2.heap.objs.size ≠ hh.objs.size := by rw [hC]; exact Nat.ne_of_lt (Nat.lt_succ_self _)
  have hCle : s2.heap.objs.size ≤ hh.objs.size := by rw [hC]; exact Nat.le_succ _
  have old : ∀ b o, s2.heap.get? b = some o → h1.get? b = some o := fun b o e => hsb.extBut b o (neC (Heap.lt_size e)) (Heap.get?_push_of_some _ (hp ▸ Heap.get?_push_of_some _ e))
  have hnew : h1.get? s2.heap.objs.size = some { cls := .type "list", dict := none, data := .seq ([] : List Value).toArray } := hsb.extBut _ _ hDC (Heap.get?_push_of_some _ (hp ▸ Heap.get?_push_size _ rfl))
  have fpH : ∀ b ∈ fp, ∃ o, s2.heap.get? b = some o := fun b hb => let ⟨o, e, _⟩ := T.obj 0 _ st2 b hb; ⟨o, e⟩
  have fpD : ∀ b ∈ fp, b ≠ s2.heap.objs.size := fun b hb => by obtain ⟨o, e⟩ := fpH b hb; exact neD (Heap.lt_size e)
  have fpC : ∀ b ∈ fp, b ≠ hh.objs.size := fun b hb => by obtain ⟨o, e⟩ := fpH b hb; exact neC (Heap.lt_size e)
  have fpS : ∀ b ∈ fp, b ∉ frs X.stack := fun b hb z => (List.mem_cons.mp (I2.stkSub b z)).elim (f2 b hb).2.1 (f2 b hb).2.2.1
  have hok' : (X.comp sc cl hh.objs.size (t :: ys) s2 H2 fp).Ok := by
    refine ⟨I2.ok.mod, ck.kind, I2.ok.glob, I2.ok.blt, hCle, fun x y c a b => I2.ok.inj x y c (cl1 x c a) (cl1 y c b), fun x hx => ?_, (fun x c z => nomatch z), I2.ok.hd, I2.ok.frames, .inl rfl, fun b hb => ⟨fpC b hb, fun x c a => (f2 b hb).2.2.2.2.1 x c (cl1 x c a)⟩,
      I2.bs, Nat.le_trans I2.ok.bsz I2.sz, fun b o e hb => ?_, fun b hb => fpS b hb, I2.stack, I2.stkFree⟩
    · have hx' : (sc.names.map fun (n, k) => if (k == NameKind.free && X.env.scope.kind == .function && X.env.kindOf n == some .cell) then (n, NameKind.cell) else (n, k)).lookup x = some .cell ∨ (sc.names.map fun (n, k) => if (k == NameKind.free && X.env.scope.kind == .function && X.env.kindOf n == some .cell) then (n, NameKind.cell) else (n, k)).lookup x = some .free := hx
      rcases hx' with z | z
      · rcases relabel_inv z with q | ⟨_, q⟩
        · exact absurd rfl (ck.ncell _ (PySem.mem_of_lookup q))
        · exact cl2 x (PySem.mem_of_lookup q)
      · rcases relabel_inv z with q | ⟨q, _⟩
        · exact cl2 x (PySem.mem_of_lookup q)
        · cases q
    · rcases (f2 b hb).2.2.2.1 with z | z
      · exact I2.ok.noex b o e z
      · exact absurd (Nat.lt_of_lt_of_le (Heap.lt_size e) (Nat.le_trans I2.ok.bsz z)) (Nat.lt_irrefl _)
  have Iin : ∀ tk : Nat, Inv (X.comp sc cl hh.objs.size (t :: ys) s2 H2 fp) [] (none :: compS js σ) (upd H2 s2.heap.objs.size (.lst [])) { s2 with heap := h1, toks := tk } := fun tk => by
    refine ⟨hok', rfl, I2.bare, Un.laid old (Nat.le_refl _) I2.fresh, ⟨_, hns, fun i x v e1 e2 e3 => ?_⟩, fun x c e => ?_, ?_, fun x c e => ?_, fun p hp => absurd (show p ∈ ([] : List (Addr × Obj)) from hp) (by simp), I2.hok.laid old (Nat.le_refl _) ⟨Nat.zero_le _, [], 0, .nil, hnew⟩, ?_⟩
    · cases i with
      | zero => simp at e2
      | succ k =>
        have e1' : ys[k]? = some x := e1
        have e2' : (compS js σ)[k]? = some (some v) := by simpa using e2
        unfold compS at e2'
        rw [List.getElem?_map] at e2'
        have q := congrArg (fun l => l[k]?) ck.ysj
        simp only [List.getElem?_map, e1', Option.map_some] at q
        cases hj : js[k]? with
        | none => rw [hj] at q; cases q
        | some j =>
          rw [hj] at q e2'
          have q1 : X.N[j]? = some x := (Option.some.inj q).symm
          have q2 : σ[j]? = some (some v) := by
            have z : (σ[j]?).join = some v := Option.some.inj e2'
            cases hz : σ[j]? with
            | none => rw [hz] at z; cases z
            | some y => rw [hz] at z; exact congrArg some z
          have hf' := ck.ysf x (List.mem_of_getElem? e1')
          have hcell := ck.fre _ (PySem.mem_of_lookup hf') rfl
          obtain ⟨m2, hn2, hl2⟩ := I2.loc
          obtain ⟨u, ru, lk⟩ := hl2 j x v q1 q2 (.inr (.inl hcell))
          refine ⟨u, ru, ?_⟩
          rcases lk with ⟨kk, _⟩ | ⟨_, c, ec, ic⟩
          · have kk' : X.env.scope.names.lookup x = some .local := kk
            have hcell' : X.env.scope.names.lookup x = some .cell := hcell
            rw [hcell'] at kk'; cases kk'
          · obtain ⟨c', ec'⟩ := cl2 x (PySem.mem_of_lookup hf')
            have : c' = c := Option.some.inj ((cl1 x c' ec').symm.trans ec)
            subst this
            refine .inr ⟨relabel_free hf', c', ec', ?_⟩
            obtain ⟨o, ho, hd⟩ := ic
            exact ⟨o, old _ o ho, hd⟩
    · obtain ⟨v, o, ho, hd⟩ := I2.cell x c (cl1 x c e)
      exact ⟨v, o, old _ o ho, hd⟩
    · show upd H2 s2.heap.objs.size _ hh.objs.size = none
      rw [upd_ne (Ne.symm hDC)]
      exact I2.hok.fresh hCle
    · obtain ⟨v, o, ho, hd⟩ := I2.cell x c (cl1 x c e)
      rw [upd_ne (neD (Heap.lt_size ho))]
      exact I2.freeC x c (cl1 x c e)
    · show (none :: compS js σ).length = (t :: ys).length
      have q := congrArg List.length ck.ysj
      simp only [List.length_map] at q
      unfold compS
      simp only [List.length_cons, List.length_map]
      omega
  have st1 : tn 0 h1 := T.keep _ _ _ st2 fun b hb o e => old b o e
  obtain ⟨W, ⟨m0, w0⟩, turn⟩ := hR s2.heap.objs.size I2.fresh
  have fpok : ∀ {H' : Hp}, (∀ b ∈ fp, H' b = none) → ∀ b ∈ fp, FpOk (X.comp sc cl hh.objs.size (t :: ys) s2 H2 fp) [] H' b := fun hn b hb =>
    ⟨hn b hb, fpC b hb, fpS b hb, .inl hb, fun x c a => (f2 b hb).2.2.2.2.1 x c (cl1 x c a), fun p hp => absurd (show p ∈ ([] : List (Addr × Obj)) from hp) (by simp)⟩
  have ndN : (t :: ys).Nodup := ck.nd
  have loop : ∀ s3 : Shared, s3 = { s2 with heap := h1, toks := s2.toks + ([] : List (Str × Value)).length } →
      codeAny (model X.prog X.w) X.A (.compLoop (.ListComp elt [⟨.Name t px, iter, ifs, 0⟩] sc pos) 0 (.ref it) (.ref s2.heap.objs.size) (compEnvC sc cl hh.objs.size X.env))
        (compPost (model X.prog X.w) X.A X.xe none (EP X pins σ Q) (.ref s2.heap.objs.size) hh.objs.size) s3 := by
    rintro s3 rfl
    refine comp_turns (fun n s' => ∃ i acc H', Inv (X.comp sc cl hh.objs.size (t :: ys) s2 H2 fp) [] (none :: compS js σ) H' s' ∧ tn i s'.heap ∧ (∀ b ∈ fp, H' b = none) ∧ W i n acc H') ?_ m0
      ⟨0, [], _, Iin _, st1, fun b hb => by rw [upd_ne (fpD b hb)]; exact (f2 b hb).1, w0⟩
    rintro n s3 ⟨i, acc, H3, I3, st3, fr3, w3⟩
    obtain ⟨hD, hz, alt⟩ := turn i n acc H3 w3
    rcases alt with ⟨stop, q⟩ | ⟨go, step⟩
    · refine thn (T.done (X.comp sc cl hh.objs.size (t :: ys) s2 H2 fp) rfl rfl rfl hc i [] s3 _ H3 _ I3 (fpok fr3) st3 stop) fun r s4 ⟨hr, I4⟩ => ?_
      subst hr
      obtain ⟨m, hn, _⟩ := id I4.loc
      refine ⟨m, hn, fun h' sb => ⟨.ref s2.heap.objs.size, H3, ?_, rfl, q⟩⟩
      have ltC : ∀ b o, s2.heap.get? b = some o → b ≠ hh.objs.size := fun b o e => neC (Heap.lt_size e)
      have b4 : Un (frs X.stack) fp H2 H3 s2.heap s4.heap := I4.base
      refine I2.call' (s' := { s4 with heap := h' }) (ch := fp) I4.os ⟨fun b o e n1 n2 n3 => (sb.2 b (ltC b o e)).trans (b4.keep b o e n1 n2 n3), fun b o e n1 n2 n3 => ?_, b4.free, fun b o e n1 => ?_, b4.tups, b4.frzs, b4.tbls⟩ (fun b ob e => ?_) I4.bare
        (fun b hb => ⟨(f2 b hb).2.2.2.1, (f2 b hb).2.1, (f2 b hb).2.2.2.2.1, (f2 b hb).2.2.2.2.2⟩)
      · obtain ⟨sl, e1⟩ := b4.slot b o e n1 n2 n3
        exact ⟨sl, (sb.2 b (ltC b o e)).trans e1⟩
      · obtain ⟨o', e1⟩ := b4.there b o e n1
        exact ⟨o', (sb.2 b (ltC b o e)).trans e1⟩
      · have hfree : H3 hh.objs.size = none := I4.free
        refine (I4.hok b ob e).stay (fun c w' hc' q' => (sb.2 c ?_).trans q') (fun _ q' => q') fun _ _ q' => q'
        rintro rfl
        rcases hc' with rfl | hc'
        · rw [hfree] at e; cases e
        · rw [hfree] at hc'; cases hc'
    · refine thn (T.item (X.comp sc cl hh.objs.size (t :: ys) s2 H2 fp) rfl rfl rfl hc i [] s3 _ H3 _ I3 (fpok fr3) st3 go) fun r s4 ⟨u, hr, h4⟩ => ?_
      subst hr
      refine thn h4 fun _ s5 ⟨x, H5, I5, r5, y5, st5, fr5⟩ => ?_
      have I5' := I5.pinned (fpok fr5) (T.obj _ _ st5)
      refine wpAny_assign_Name (store_ok (i := 0) I5' ndN rfl (.inl (lookup_relabel_local ck.tl)) r5 (fun s6 I6 => ?_) (.inr (lookup_relabel_local ck.tl)))
      have again : ∀ {H7 : Hp} {s7 : Shared} {m' : Nat} {acc' : List V}, Inv (X.comp sc cl hh.objs.size (t :: ys) s2 H2 fp) ([] ++ pinsAt fp s5.heap) (some x :: compS js σ) H7 s7 → m' < n → W (i + 1) m' acc' H7 →
          ∃ m, m < n ∧ ∃ i acc H', Inv (X.comp sc cl hh.objs.size (t :: ys) s2 H2 fp) [] (none :: compS js σ) H' s7 ∧ tn i s7.heap ∧ (∀ b ∈ fp, H' b = none) ∧ W i m acc H' := fun {H7 s7 m' acc'} I7 hm w7 => by
        refine ⟨m', hm, i + 1, acc', H7, (I7.unpinned).weak rfl (fun k v e => ?_), T.keep _ _ _ st5 fun b hb o e => (I7.pin (b, o) (List.mem_append_right _ (List.mem_append_right _ (mem_pinsAt hb e)))).1, fun b hb => ?_, w7⟩
        · cases k with
          | zero => simp at e
          | succ k => simpa using e
        · obtain ⟨o, e, d⟩ := T.obj _ _ st5 b hb
          exact (I7.pin (b, o) (List.mem_append_right _ (List.mem_append_right _ (mem_pinsAt hb e)))).2.1
      refine thn (hf _ _ _ _ _ _ s6 _ H5 _ I6 (step x H5 y5)) fun ok s7 ⟨H7, I7, q7⟩ => ?_
      cases ok with
      | false =>
        obtain ⟨m', hm, w7⟩ := q7
        exact again I7 hm w7
      | true =>
        refine thn (he _ _ _ _ _ _ s7 _ H7 _ I7 q7) fun uy s8 ⟨y, H8, I8, r8, hD8, m', hm, w8⟩ => ?_
        refine thn (mt_append (X := X.comp sc cl hh.objs.size (t :: ys) s2 H2 fp) _ s8 _ H8 (.ref s2.heap.objs.size) [y] (.ref s2.heap.objs.size) [uy] (fun _ H9 => W (i + 1) m' (acc ++ [y]) H9) I8 rfl (.cons r8 .nil) ⟨_, acc, y, rfl, rfl, hD8, hz, w8⟩) fun _ s9 ⟨_, H9, I9, _, q9⟩ => ?_
        exact again I9 hm q9
  exact codeAny_compStart_list (loop _ rfl) (T.self _ 0 _ _ _ st1 (loop _ rfl))
theorem cstep {n i m : Nat} {A B : Prop} (hi : i < n) (hm : m = n - i) (a : A) (b : B) : A ∧ ∃ m', m' < m ∧ (m' = n - (i + 1) ∧ i + 1 ≤ n ∧ B) := ⟨a, n - (i + 1), by omega, rfl, hi, b⟩
theorem comp_lst {K : PySem.W.Frag} {a : Addr} {xs : List V} {js : List Nat} {te : TE} {σ : St} {Q : VK} {D : Addr} {H1 : Hp} (Pv : Nat → List V → Hp → Prop) (hz : xs.length < sizeLine) (h0 : Pv 0 [] (upd H1 D (.lst [])))
    (hl : ∀ i acc H, Pv i acc H → H D = some (.lst acc) ∧ acc.length = i ∧ SqL K H a xs)
    (hs : ∀ i m x acc H, xs[i]? = some x → Pv i acc H → m = xs.length - i → te (some x :: compS js σ) H fun y H4 => H4 D = some (.lst acc) ∧ ∃ m', m' < m ∧ (m' = xs.length - (i + 1) ∧ i + 1 ≤ xs.length ∧ Pv (i + 1) (acc ++ [y]) (upd H4 D (.lst (acc ++ [y])))))
    (hd : ∀ acc H, Pv xs.length acc H → Q (.ref D) H) : CompW (Itl K a) js tYes te σ Q D H1 := by
  refine ⟨fun i m acc H => m = xs.length - i ∧ i ≤ xs.length ∧ Pv i acc H, ⟨xs.length, by simp, Nat.zero_le _, h0⟩, ?_⟩
  rintro i m acc H ⟨hm, hi, p⟩
  obtain ⟨hD, hlen, hq⟩ := hl i acc H p
  refine ⟨hD, by omega, ?_⟩
  by_cases hlt : i < xs.length
  · refine .inr ⟨⟨xs, xs[i], hq, by simp [hlt]⟩, fun x H' y => ?_⟩
    obtain ⟨e, y⟩ := y
    subst e
    unfold tYes
    dsimp only
    rw [if_pos rfl]
    exact hs i m x acc _ (y xs hq) p hm
  · have e : i = xs.length := by omega
    subst e
    exact .inl ⟨⟨xs, hq, Nat.le_refl _⟩, hd acc H p⟩
end L2
set_option Elab.async false
set_option linter.all false
set_option maxRecDepth 100000
set_option maxHeartbeats 4000000
namespace L2
open PySem PySem.Spec PyProof.Rows
section
variable {X : Cx}
theorem same_new {H : Hp} {p : Addr} (h : H p = none) (o : HO) : Same H (upd H p o) := fun b u q => by rw [upd_ne (ne_of_none q h)]; exact q
def rCatA : R2 := fun x y H Q => ∃ a b xs ys, x = .ref a ∧ y = .ref b ∧ H a = some (.tup xs) ∧ H b = some (.tup ys) ∧ xs.length + ys.length ≤ sizeLine ∧
  ∀ p H', Same H H' → H' p = some (.tup (xs ++ ys)) → Q (.ref p) H'
theorem cat_tup0 {prog : Program} {w : World} {A : Around} {E : Value → Shared → Prop} {s : Shared} {t b : Addr} {vs ws : List Value} {Q : Value → Shared → Prop} (ht : IsTup s.heap t vs.toArray) (hb : IsTup s.heap b ws.toArray) (hv : vs = []) (h : Q (.ref b) s) :
    wpAny (model prog w) A (binaryOp .Add (.ref t) (.ref b)) Q E s := by
  obtain ⟨⟨cls, dd, data, sl⟩, ho, hc, n, hd⟩ := id ht
  obtain ⟨⟨cls2, dd2, data2, sl2⟩, ho2, hc2, n2, hd2⟩ := id hb
  simp only at hc hd hc2 hd2
  subst hc hd hc2 hd2
  refine concat_meets ⟨_, ho, rfl⟩ ⟨_, ho2, rfl⟩ noFill_tuple_add seq_tuple_add PySem.F.slot_tuple_add PySem.F.entry_tuple_add (PySem.F.args_tuple_add_2 _ _) (tuple_addW0 t b vs.toArray ws.toArray n n2 dd dd2 sl sl2 (by simp [hv])) ⟨ho, ho2, h⟩
theorem op_catA : OpR X (binaryOp .Add) rCatA := by
  intro pins s σ H x y v u Q I rx ry h
  obtain ⟨a, b, xs, ys, e1, e2, ha, hb, hz, q⟩ := h
  by_cases hx : xs = []
  · subst e1 e2 hx
    cases rx
    cases ry
    obtain ⟨its, r1, p1, _⟩ := I.tuple (.of ha)
    obtain ⟨its2, r2, p2, _⟩ := I.tuple (.of hb)
    exact cat_tup0 p1 p2 (by cases r1; rfl) ⟨.ref b, H, I, rfl, q b H (Same.refl H) hb⟩
  · refine op_catT pins s σ H x y v u Q I rx ry ⟨a, b, xs, ys, e1, e2, .of ha, .of hb, hx, hz, fun hy => q a H (Same.refl H) (by rw [hy, List.append_nil]; exact ha), fun _ p hp => q p _ (same_new hp _) upd_same⟩
theorem getItem_tuple_whole {prog : Program} {w : World} {A : Around} {E : Value → Shared → Prop} {s : Shared} {t sl : Addr} {items : Array Value} {vl vu : Value} {lo hi : Option Int} {Q : Value → Shared → Prop} (ht : IsTup s.heap t items) (hs : s.heap.IsSliceOf sl vl vu .none) (pl : IsPart vl lo) (pu : IsPart vu hi)
    (hw : HT.sIx items.size 0 lo = 0 ∧ HT.sIx items.size items.size hi = items.size) (h : Q (.ref t) s) : wpAny (model prog w) A (getItem (.ref t) (.ref sl)) Q E s := by
  obtain ⟨os, hos, hcs, hds⟩ := id hs
  have hTs : s.TypeIs (.ref sl) "slice" := ⟨os, hos, hcs⟩
  unfold getItem
  try with_reducible refine wpAny_holding ?_
  first | refine wpAny_bind (wpAny_pure ?_) | skip
  refine wpAny_bind (wpAny_sequenceKey ht.typeIs (by decide) ?_)
  refine wpAny_bind (wpAny_callSpecial?_slot (name := Str.ofString "__getitem__") ht.typeIs PyProof.Rows.slot_tuple_getitem (wpAny_call_entry PyProof.Rows.slot_tuple_getitem ht.typeIs entry_tuple_getitem ?_ (args_tuple_getitem _ _)))
  show wpAny _ _ (Builtin.Tuple.tupleItemsOf (.ref t) >>= _) _ _ s
  refine wpAny_bind (tupleItemsOf_ ht ?_)
  refine wpAny_bind (wpAny_typeOf hTs ?_)
  rw [if_pos (by decide)]
  refine wpAny_bind (HT.sliceApplied_gen hs pl pu ?_)
  have yes : (((HT.sIx items.size 0 lo : Nat) : Int) == 0 && (1 : Int) == 1 && (HT.sIx items.size items.size hi - HT.sIx items.size 0 lo) == items.size) = true := by
    rw [hw.1, hw.2]
    simp
  show wpAny _ _ (if (((HT.sIx items.size 0 lo : Nat) : Int) == 0 && (1 : Int) == 1 && (HT.sIx items.size items.size hi - HT.sIx items.size 0 lo) == items.size) = true then _ else _) _ _ s
  rw [if_pos yes]
  show wpAny _ _ (Builtin.Tuple.tupleIsExact (.ref t) >>= _) _ _ s
  unfold Builtin.Tuple.tupleIsExact
  refine wpAny_bind (wpAny_bind (wpAny_typeOf ht.typeIs (wpAny_pure ?_)))
  rw [if_pos (by decide)]
  first
    | exact wpAny_bind (wpAny_rule (wpAny_pure ⟨_, rfl, wpAny_pure h⟩))
    | exact wpAny_bind (wpAny_rule (wpAny_bind (wpAny_pure (wpAny_pure ⟨_, rfl, wpAny_pure h⟩))))
    | exact wpAny_bind (wpAny_rule (wpAny_bind (wpAny_pure ⟨_, rfl, wpAny_pure h⟩)))
def rSlTA : V → Option Int → Option Int → Hp → VK → Prop := fun x lo hi H Q => ∃ a xs, x = .ref a ∧ H a = some (.tup xs) ∧ ∀ p H', Same H H' → H' p = some (.tup (cutV xs lo hi)) → Q (.ref p) H'
theorem sl_tupA : SlR X rSlTA := by
  intro pins s σ H x v vl vu lo hi sl Q I rx hs pl pu h
  obtain ⟨a, xs, e, hx, q⟩ := h
  by_cases hw : HT.sIx xs.length 0 lo = 0 ∧ HT.sIx xs.length xs.length hi = xs.length
  · subst e
    cases rx
    obtain ⟨its, r, ht, hz⟩ := I.tuple (.of hx)
    have hlen : its.toArray.size = xs.length := by rw [List.size_toArray]; exact r.length.symm
    refine ⟨"tuple", _, PyProof.Rows.slot_tuple_getitem.lookup, ht.typeIs, getItem_tuple_whole ht hs pl pu (by rw [hlen]; exact hw) ⟨.ref a, H, I, rfl, q a H (Same.refl H) ?_⟩⟩
    have ec : cutV xs lo hi = xs := by unfold cutV; rw [hw.1, hw.2]; simp
    rw [ec]
    exact hx
  · exact sl_tup pins s σ H x v vl vu lo hi sl Q I rx hs pl pu ⟨a, xs, e, .of hx, hw, fun p hp => q p _ (same_new hp _) upd_same⟩
end
end L2
set_option Elab.async false
set_option linter.all false
set_option maxRecDepth 100000
set_option maxHeartbeats 4000000
namespace L2
open PySem PySem.Spec PyProof.Rows
section
variable {X : Cx}
theorem call_isinst : CallR X (.builtin "isinstance") (fun xs H Q => ∃ x T t b, xs = [x, .ty T] ∧ TyOf X.K H x t ∧ PySem.W.kitOne X.K t (.type T) = some b ∧ Q (.bl b) H) := by
  intro pins s σ H xs us Q I r h
  obtain ⟨x, T, t, b, rfl, ty, e, q⟩ := h
  obtain ⟨u, w, rfl, ru, rw'⟩ := vals2 r
  cases rw'
  exact isinst_ok I ru ty e fun tk => ⟨.bl b, H, I.tok tk, rfl, q⟩
end
end L2
set_option Elab.async false
set_option linter.all false
namespace L2
open PySem PySem.Spec PyProof.Rows
section
variable {X : Cx} {es : List Expr} {te : TE} {t : TA} {env : Env}
theorem starT {a : List Expr} {k : Nat} {p : Pos} : starEach (.Tuple a k p :: es) env = (false, eval (.Tuple a k p) env) :: starEach es env := by first | rfl | (rw [starEach]; intro _ _ z; cases z)
theorem paT {a : List Expr} {k : Nat} {p : Pos} (ha : PE X (.Tuple a k p) te) (hr : PA X es t) : PA X (.Tuple a k p :: es) (tCons te t) := pa_cons ha hr starT
theorem starL {a : List Expr} {p : Pos} : starEach (.List a p :: es) env = (false, eval (.List a p) env) :: starEach es env := by first | rfl | (rw [starEach]; intro _ _ z; cases z)
theorem paL {a : List Expr} {p : Pos} (ha : PE X (.List a p) te) (hr : PA X es t) : PA X (.List a p :: es) (tCons te t) := pa_cons ha hr starL
theorem starC {c : Const} {k : Nat} {p : Pos} : starEach (.Constant c k p :: es) env = (false, eval (.Constant c k p) env) :: starEach es env := by first | rfl | (rw [starEach]; intro _ _ z; cases z)
theorem paC {c : Const} {k : Nat} {p : Pos} (ha : PE X (.Constant c k p) te) (hr : PA X es t) : PA X (.Constant c k p :: es) (tCons te t) := pa_cons ha hr starC
theorem starN {x : Str} {p : Pos} : starEach (.Name x p :: es) env = (false, eval (.Name x p) env) :: starEach es env := by first | rfl | (rw [starEach]; intro _ _ z; cases z)
theorem paN {x : Str} {p : Pos} (ha : PE X (.Name x p) te) (hr : PA X es t) : PA X (.Name x p :: es) (tCons te t) := pa_cons ha hr starN
theorem starB {l r : Expr} {o : Operator} {p : Pos} : starEach (.BinOp l o r p :: es) env = (false, eval (.BinOp l o r p) env) :: starEach es env := by first | rfl | (rw [starEach]; intro _ _ z; cases z)
theorem paB {l r : Expr} {o : Operator} {p : Pos} (ha : PE X (.BinOp l o r p) te) (hr : PA X es t) : PA X (.BinOp l o r p :: es) (tCons te t) := pa_cons ha hr starB
theorem starS {v i : Expr} {p : Pos} : starEach (.Subscript v i p :: es) env = (false, eval (.Subscript v i p) env) :: starEach es env := by first | rfl | (rw [starEach]; intro _ _ z; cases z)
theorem paS {v i : Expr} {p : Pos} (ha : PE X (.Subscript v i p) te) (hr : PA X es t) : PA X (.Subscript v i p :: es) (tCons te t) := pa_cons ha hr starS
theorem starK {f : Expr} {a : List Expr} {k : List Keyword} {p : Pos} : starEach (.Call f a k p :: es) env = (false, eval (.Call f a k p) env) :: starEach es env := by first | rfl | (rw [starEach]; intro _ _ z; cases z)
theorem paK {f : Expr} {a : List Expr} {k : List Keyword} {p : Pos} (ha : PE X (.Call f a k p) te) (hr : PA X es t) : PA X (.Call f a k p :: es) (tCons te t) := pa_cons ha hr starK
theorem starM {l : Expr} {o : List CmpOp} {c : List Expr} {p : Pos} : starEach (.Compare l o c p :: es) env = (false, eval (.Compare l o c p) env) :: starEach es env := by first | rfl | (rw [starEach]; intro _ _ z; cases z)
theorem paM {l : Expr} {o : List CmpOp} {c : List Expr} {p : Pos} (ha : PE X (.Compare l o c p) te) (hr : PA X es t) : PA X (.Compare l o c p :: es) (tCons te t) := pa_cons ha hr starM
theorem starU {o : UnaryOp} {v : Expr} {p : Pos} : starEach (.UnaryOp o v p :: es) env = (false, eval (.UnaryOp o v p) env) :: starEach es env := by first | rfl | (rw [starEach]; intro _ _ z; cases z)
theorem paU {o : UnaryOp} {v : Expr} {p : Pos} (ha : PE X (.UnaryOp o v p) te) (hr : PA X es t) : PA X (.UnaryOp o v p :: es) (tCons te t) := pa_cons ha hr starU
theorem starE {e : Expr} {g : List Comprehension} {s : Scope} {p : Pos} : starEach (.ListComp e g s p :: es) env = (false, eval (.ListComp e g s p) env) :: starEach es env := by first | rfl | (rw [starEach]; intro _ _ z; cases z)
theorem paE {e : Expr} {g : List Comprehension} {s : Scope} {p : Pos} (ha : PE X (.ListComp e g s p) te) (hr : PA X es t) : PA X (.ListComp e g s p :: es) (tCons te t) := pa_cons ha hr starE
end
end L2
set_option Elab.async false
set_option linter.all false
set_option maxRecDepth 100000
set_option maxHeartbeats 4000000
namespace L2
open PySem PySem.Spec PyProof.Rows
theorem iteY {c : Bool} {A B : Prop} (h : c = true) (q : A) : if c = true then A else B := by rw [if_pos h]; exact q
theorem iteYd {p : Prop} [Decidable p] {A B : Prop} (h : p) (q : A) : if decide p = true then A else B := by rw [if_pos (decide_eq_true h)]; exact q
theorem iteNd {p : Prop} [Decidable p] {A B : Prop} (h : ¬ p) (q : B) : if decide p = true then A else B := by rw [if_neg (by rw [decide_eq_false h]; decide)]; exact q
theorem iteDd {p : Prop} [Decidable p] {A B : Prop} (h1 : p → A) (h2 : ¬ p → B) : if decide p = true then A else B := by
  by_cases h : p
  · exact iteYd h (h1 h)
  · exact iteNd h (h2 h)
section
variable {K : PySem.W.Frag}
theorem k_ss : PySem.W.kitOne K (.type "str") (.type "str") = some true := by with_unfolding_all rfl
theorem k_ts : PySem.W.kitOne K (.type "tuple") (.type "str") = some false := by with_unfolding_all rfl
theorem k_is' : PySem.W.kitOne K (.type "int") (.type "str") = some false := by with_unfolding_all rfl
theorem k_tt : PySem.W.kitOne K (.type "tuple") (.type "tuple") = some true := by with_unfolding_all rfl
theorem k_it : PySem.W.kitOne K (.type "int") (.type "tuple") = some false := by with_unfolding_all rfl
theorem k_ii : PySem.W.kitOne K (.type "int") (.type "int") = some true := by with_unfolding_all rfl
theorem k_ib : PySem.W.kitOne K (.type "int") (.type "bool") = some false := by with_unfolding_all rfl
theorem isds_nil {H : Hp} : Isds K H [] [] := by unfold Isds; rfl
theorem isds_cons {H : Hp} {d : Da} {ds : List Da} {v : V} {vs : List V} (h : Isd K H d v) (t : Isds K H ds vs) : Isds K H (d :: ds) (v :: vs) := by unfold Isds; exact ⟨_, _, rfl, h, t⟩
end
theorem fits2 {n : Nat} (h : n ≤ 100000) : n ≤ sizeLine := Nat.le_trans h (by decide)
theorem fitsL {n : Nat} (h : n ≤ 100000) : n < sizeLine := Nat.lt_of_le_of_lt h (by decide)
theorem same_upd {H H' : Hp} {D : Addr} {o : HO} (hn : H D = none) (s : Same H H') : Same H (upd H' D o) := fun b u q => by rw [upd_ne (ne_of_none q hn)]; exact s b u q
end L2
set_option Elab.async false
set_option linter.all false
set_option maxRecDepth 100000
set_option maxHeartbeats 4000000
namespace L2
open PySem PySem.Spec PyProof.Rows
section
variable {X : Cx}
end
section
variable {prog : Program} {w : World} {A : Around} {R : Result → Shared → Prop} {I S l : Addr} {d : Value} {xs : Array (Int × Tok)}
end
section
variable {X : Cx}
theorem op_rep_str : OpR X (binaryOp .Mult) (fun x y H Q => ∃ z n, x = .str z ∧ y = .int n ∧ z.length ≤ 1000 ∧ n ≤ 1000 ∧ -1000 ≤ n ∧ Q (.str (Txt.mul z n)) H) := by
  intro pins s σ H x y v u Q I rx ry h
  obtain ⟨z, n, rfl, rfl, h1, h2, h3, q⟩ := h
  obtain ⟨t, rfl⟩ := rx
  obtain ⟨t', rfl⟩ := ry
  refine SB.mul ⟨?_, fun hn _ => ?_, fun hn _ => ?_⟩ fun t' k => ⟨.str _, H, I.tok k, ⟨t', rfl⟩, q⟩
  · rw [decide_eq_false (by omega), decide_eq_false (by omega)]
    rfl
  · have e : (1000 : Int) ≤ (2 ^ 63 - 1) / n := Int.le_ediv_of_mul_le (by omega) (by omega)
    omega
  · have hle : z.length * n.toNat ≤ 1000 * 1000 := Nat.mul_le_mul h1 (by omega)
    unfold PySem.Builtin.Str.tooLong
    simp only [decide_eq_false_iff_not]
    rw [sizeLine_eq]
    omega
end
end L2
set_option Elab.async false
set_option linter.all false
set_option maxRecDepth 100000
set_option maxHeartbeats 4000000
namespace L2
open PySem PySem.Spec PyProof.Rows
section
variable {X : Cx} {K : PySem.W.Frag}
theorem ix_tupC (h : X.K = K) : IxR X (rIxT K) := h ▸ ix_tup
end
theorem take_snoc {α : Type} {xs : List α} {i : Nat} {x : α} (h : xs[i]? = some x) : xs.take (i + 1) = xs.take i ++ [x] := by
  rw [List.take_add_one, h]
  rfl
theorem lt_of_some {α : Type} {xs : List α} {i : Nat} {x : α} (h : xs[i]? = some x) : i < xs.length := (List.getElem?_eq_some_iff.mp h).1
theorem some_of_lt {α : Type} {xs : List α} {i : Nat} (h : i < xs.length) : ∃ x, xs[i]? = some x := ⟨_, List.getElem?_eq_getElem h⟩
section
variable {K : PySem.W.Frag} {a : Addr} {xs ys : List V} {js : List Nat} {tc : TT} {te : TE} {σ : St} {Q : VK} {D : Addr} {H1 : Hp}
theorem comp_lstM (hz : xs.length < sizeLine) (hlen : ys.length = xs.length) (ha : SqL K H1 a xs) (hD : H1 D = none)
    (he : ∀ (i : Nat) (x y : V) (H : Hp), xs[i]? = some x → ys[i]? = some y → Same H1 H → ∀ Q' : VK, (∀ H', Same H H' → Q' y H') → te (some x :: compS js σ) H Q')
    (hq : ∀ H', Same H1 H' → H' D = some (.lst ys) → Q (.ref D) H') : CompW (Itl K a) js tYes te σ Q D H1 := by
  refine comp_lst (K := K) (a := a) (xs := xs) (fun i acc H => i ≤ xs.length ∧ acc = ys.take i ∧ Same H1 H ∧ H D = some (.lst acc)) hz ⟨Nat.zero_le _, rfl, same_new hD _, upd_same⟩ (fun i acc H ⟨l, e, s, d⟩ => ⟨d, ?_, Same.seq s ha⟩) ?_ ?_
  · rw [e, List.length_take]
    omega
  · rintro i m x acc H hi ⟨l, e, s, d⟩ hm
    have hlt := lt_of_some hi
    obtain ⟨y, hy⟩ := some_of_lt (xs := ys) (i := i) (by omega)
    exact he i x y H hi hy s _ fun H' s' => cstep hlt hm (s' _ _ d) ⟨hlt, by rw [e, take_snoc hy], same_upd hD (s.trans s'), upd_same⟩
  · rintro acc H ⟨l, e, s, d⟩
    rw [List.take_of_length_le (by omega)] at e
    exact hq H s (by rw [d, e])
end
theorem cut_take {xs : List V} {k : Nat} (h : k ≤ xs.length) : cutV xs none (some (k : Int)) = xs.take k := by
  unfold cutV
  rw [HT.sIx_none, HT.sIx_nat, Nat.min_eq_left h]
  simp
theorem cut_drop {xs : List V} {k : Nat} (h : k ≤ xs.length) : cutV xs (some (k : Int)) none = xs.drop k := by
  unfold cutV
  rw [HT.sIx_none, HT.sIx_nat, Nat.min_eq_left h]
  rw [List.take_of_length_le (by rw [List.length_drop]; omega)]
theorem cut_take' (xs : List V) (k : Nat) : cutV xs none (some (k : Int)) = xs.take k := by
  by_cases h : k ≤ xs.length
  · exact cut_take h
  · unfold cutV
    rw [HT.sIx_none, HT.sIx_nat, Nat.min_eq_right (by omega), List.drop_zero, Nat.sub_zero, List.take_of_length_le (Nat.le_refl _), List.take_of_length_le (by omega)]
theorem cut_drop' (xs : List V) (k : Nat) : cutV xs (some (k : Int)) none = xs.drop k := by
  by_cases h : k ≤ xs.length
  · exact cut_drop h
  · unfold cutV
    rw [HT.sIx_none, HT.sIx_nat, Nat.min_eq_right (by omega), List.drop_of_length_le (Nat.le_refl _), List.drop_of_length_le (by omega)]
    exact List.take_nil
end L2
set_option Elab.async false
set_option linter.all false
set_option maxRecDepth 100000
namespace L2
open PySem PySem.Spec PyProof.Rows
structure QE (X : Cx) (e : Expr) (t : TE) : Prop where
  h : PE X e t
structure QA (X : Cx) (es : List Expr) (t : TA) : Prop where
  h : PA X es t
structure QS (X : Cx) (st : Stmt) (t : TS) : Prop where
  h : PS X st t
structure QSs (X : Cx) (b : List Stmt) (t : TS) : Prop where
  h : PSs X b t
structure QT (X : Cx) (e : Expr) (t : TT) : Prop where
  h : PT X e t
structure QW (X : Cx) (e : Expr) (t : TT) : Prop where
  h : PW X e t
structure QI (X : Cx) (tg iter : Expr) (t : TI) : Prop where
  h : PI X tg iter t
structure QG (X : Cx) (tg : Expr) (t : TG) : Prop where
  h : PG X tg t
structure QGs (X : Cx) (ts : List Expr) (t : TGs) : Prop where
  h : PGs X ts t
structure QO (X : Cx) (e : Option Expr) (t : TO) : Prop where
  h : PO X e t
structure QIf (X : Cx) (ifs : List Expr) (t : TT) : Prop where
  h : PIf X ifs t
theorem qss_cons {X : L2.Cx} {st : PySem.Stmt} {rest : List PySem.Stmt} {t : L2.TS} {u : L2.TS} (h1 : QS X st t) (h2 : QSs X rest u) : QSs X (st :: rest) (L2.tSeq t u) := ⟨@L2.pss_cons _ _ _ _ _ h1.h h2.h⟩
theorem qss_one {X : L2.Cx} {st : PySem.Stmt} {t : L2.TS} (h1 : QS X st t) : QSs X [st] t := ⟨@L2.pss_one _ _ _ h1.h⟩
theorem qs_set {X : L2.Cx} {pos : PySem.Pos} {i : Nat} {x : PySem.Str} {e : PySem.Expr} {te : L2.TE} {pos' : PySem.Pos} (hN : List.Nodup (L2.Cx.N X)) (hi : (L2.Cx.N X)[i]? = Option.some x) (hx : L2.Loc (PySem.Env.scope (L2.Cx.env X)) x) (he : QE X e te) (hs : PySem.swapsWith e (Option.some (PySem.Expr.Name x pos')) (PySem.Pos.line pos) (L2.Cx.env X) = Pure.pure Bool.false := by rfl) (hf : L2.Cx.fn X x = Bool.true ∨ List.lookup x (PySem.Scope.names (PySem.Env.scope (L2.Cx.env X))) = Option.some PySem.NameKind.local := by first | exact .inl rfl | exact .inr rfl | assumption) : QS X (PySem.Stmt.Assign [PySem.Expr.Name x pos'] e pos) (L2.tAsg te (L2.gName i)) := ⟨@L2.ps_set _ _ _ _ _ _ _ hN hi hx he.h hs hf⟩
theorem qs_asg {X : L2.Cx} {pos : PySem.Pos} {tg : PySem.Expr} {e : PySem.Expr} {te : L2.TE} {g : L2.TG} (he : QE X e te) (hg : QG X tg g) (hs : PySem.swapsWithSole [tg] e (PySem.Pos.line pos) (L2.Cx.env X) = Pure.pure Bool.false := by rfl) (hw : PySem.swappedStores [tg] e (L2.Cx.env X) = Pure.pure Option.none := by rfl) (h1 : List.map (fun (x : Bool × (PySem.Value → PySem.Sem Unit)) => Prod.snd x) (PySem.assignEach [tg] (L2.Cx.env X)) = [PySem.assign tg (L2.Cx.env X)] := by rfl) : QS X (PySem.Stmt.Assign [tg] e pos) (L2.tAsg te g) := ⟨@L2.ps_asg _ _ _ _ _ _ he.h hg.h hs hw h1⟩
theorem qs_expr {X : L2.Cx} {e : PySem.Expr} {te : L2.TE} {pos : PySem.Pos} (he : QE X e te) (hs : PySem.swapsWith e Option.none (PySem.Pos.line pos) (L2.Cx.env X) = Pure.pure Bool.false := by rfl) : QS X (PySem.Stmt.Expr e pos) (L2.tDrop te) := ⟨@L2.ps_expr _ _ _ _ he.h hs⟩
theorem qs_ret {X : L2.Cx} {e : PySem.Expr} {te : L2.TE} {pos : PySem.Pos} (he : QE X e te) : QS X (PySem.Stmt.Return (Option.some e) pos) (L2.tRet te) := ⟨@L2.ps_ret _ _ _ _ he.h⟩
theorem qs_if {X : L2.Cx} {t : L2.TS} {u : L2.TS} {pos : PySem.Pos} {c : PySem.Expr} {a : List PySem.Stmt} {b : List PySem.Stmt} {tc : L2.TT} (hc : QT X c tc) (ha : QSs X a t) (hb : QSs X b u) : QS X (PySem.Stmt.If c a b pos) (L2.tIfS tc t u) := ⟨@L2.ps_if _ _ _ _ _ _ _ _ hc.h ha.h hb.h⟩
theorem qs_for {X : L2.Cx} {tg : PySem.Expr} {iter : PySem.Expr} {body : List PySem.Stmt} {wi : L2.TI} {g : L2.TG} {tb : L2.TS} {pos : PySem.Pos} (hp : PySem.PassesOwn (PySem.model (L2.Cx.prog X) (L2.Cx.w X)) (L2.Cx.A X) (L2.Cx.env X) (L2.Cx.xe X)) (hc : L2.Cx.calm X = Bool.true) (hi : QI X tg iter wi) (hg : QG X tg g) (hb : QSs X body tb) (hs : ∀ (x : PySem.Value), PySem.foldedSetIterable iter (L2.Cx.env X) x = Pure.pure x := by intro _; rfl) : QS X (PySem.Stmt.For tg iter body [] pos) (L2.tFor wi g tb) := ⟨@L2.ps_for _ _ _ _ _ _ _ _ hp hc hi.h hg.h hb.h hs⟩
theorem qs_while {X : L2.Cx} {pos : PySem.Pos} {c : PySem.Expr} {body : List PySem.Stmt} {tc : L2.TT} {tb : L2.TS} (hp : PySem.PassesOwn (PySem.model (L2.Cx.prog X) (L2.Cx.w X)) (L2.Cx.A X) (L2.Cx.env X) (L2.Cx.xe X)) (hc : QT X c tc) (hb : QSs X body tb) : QS X (PySem.Stmt.While c body [] pos) (L2.tWhile tc tb) := ⟨@L2.ps_while _ _ _ _ _ _ hp hc.h hb.h⟩
theorem qe_op {X : L2.Cx} {a : PySem.Expr} {b : PySem.Expr} {ta : L2.TE} {tb : L2.TE} {pos : PySem.Pos} {op : PySem.Operator} {r : L2.R2} (ho : L2.OpR X (PySem.binaryOp op) r) (ha : QE X a ta) (hb : QE X b tb) : QE X (PySem.Expr.BinOp a op b pos) (L2.tOp r ta tb) := ⟨@L2.pe_op _ _ _ _ _ _ _ _ ho ha.h hb.h⟩
theorem qe_un {X : L2.Cx} {a : PySem.Expr} {ta : L2.TE} {pos : PySem.Pos} {op : PySem.UnaryOp} {r : L2.V → L2.Hp → L2.VK → Prop} (ho : L2.UnR X (PySem.unaryOp op) r) (ha : QE X a ta) : QE X (PySem.Expr.UnaryOp op a pos) (L2.tUn r ta) := ⟨@L2.pe_un _ _ _ _ _ _ ho ha.h⟩
theorem qe_not {X : L2.Cx} {a : PySem.Expr} {ta : L2.TE} {pos : PySem.Pos} (ha : QE X a ta) : QE X (PySem.Expr.UnaryOp PySem.UnaryOp.Not a pos) (L2.tNotV ta) := ⟨@L2.pe_not _ _ _ _ ha.h⟩
theorem qe_one {X : L2.Cx} {a : PySem.Expr} {pos : PySem.Pos} {op : PySem.BoolOp} {t : L2.TE} (h : QE X a t) : QE X (PySem.Expr.BoolOp op [a] pos) t := ⟨@L2.pe_one _ _ _ _ _ h.h⟩
theorem qe_and {X : L2.Cx} {a : PySem.Expr} {b : PySem.Expr} {ta : L2.TE} {tb : L2.TE} {pos : PySem.Pos} {rest : List PySem.Expr} (ha : QE X a ta) (hb : QE X (PySem.Expr.BoolOp PySem.BoolOp.And (b :: rest) pos) tb) : QE X (PySem.Expr.BoolOp PySem.BoolOp.And (a :: b :: rest) pos) (L2.tAndV ta tb) := ⟨@L2.pe_and _ _ _ _ _ _ _ ha.h hb.h⟩
theorem qe_cmpR {X : L2.Cx} {a : PySem.Expr} {b : PySem.Expr} {ta : L2.TE} {tb : L2.TE} {pos : PySem.Pos} {op : PySem.CmpOp} {r : L2.R2} (ho : L2.OpR X (PySem.compareOp op) r) (ha : QE X a ta) (hb : QE X b tb) (hm : PySem.behindInMarks op b = Bool.false) : QE X (PySem.Expr.Compare a [op] [b] pos) (L2.tOp r ta tb) := ⟨@L2.pe_cmpR _ _ _ _ _ _ _ _ ho ha.h hb.h hm⟩
theorem qe_lst {X : L2.Cx} {es : List PySem.Expr} {t : L2.TA} {pos : PySem.Pos} (h : QA X es t) : QE X (PySem.Expr.List es pos) (L2.tLst t) := ⟨@L2.pe_lst _ _ _ _ h.h⟩
theorem qe_tup {X : L2.Cx} {es : List PySem.Expr} {t : L2.TA} {pos : PySem.Pos} {x1 : Nat} (h : QA X es t) : QE X (PySem.Expr.Tuple es x1 pos) (L2.tTup t) := ⟨@L2.pe_tup _ _ _ _ _ h.h⟩
theorem qe_slice {X : L2.Cx} {e : PySem.Expr} {te : L2.TE} {lo : Option PySem.Expr} {hi : Option PySem.Expr} {tl : L2.TO} {th : L2.TO} {pos : PySem.Pos} {p2 : PySem.Pos} {r : L2.V → Option Int → Option Int → L2.Hp → L2.VK → Prop} (hr : L2.SlR X r) (he : QE X e te) (hl : QO X lo tl) (hu : QO X hi th) : QE X (PySem.Expr.Subscript e (PySem.Expr.Slice lo hi Option.none p2) pos) (L2.tSl r te tl th) := ⟨@L2.pe_slice _ _ _ _ _ _ _ _ _ _ hr he.h hl.h hu.h⟩
theorem qe_ix {X : L2.Cx} {a : PySem.Expr} {b : PySem.Expr} {ta : L2.TE} {tb : L2.TE} {pos : PySem.Pos} {r : L2.R2} (hr : L2.IxR X r) (ha : QE X a ta) (hb : QE X b tb) (hs : L2.PlainIx b) : QE X (PySem.Expr.Subscript a b pos) (L2.tOp r ta tb) := ⟨@L2.pe_ix _ _ _ _ _ _ _ hr ha.h hb.h hs⟩
theorem qe_comp {X : L2.Cx} {elt : PySem.Expr} {iter : PySem.Expr} {ifs : List PySem.Expr} {sc : PySem.Scope} {pos : PySem.Pos} {px : PySem.Pos} {t : PySem.Str} {ys : List PySem.Str} {js : List Nat} {wi : L2.TI} {tc : L2.TT} {te : L2.TE} (hc : L2.Cx.calm X = Bool.true) (hck : L2.compChk (L2.Cx.N X) (PySem.Env.scope (L2.Cx.env X)) sc t ys js = Bool.true) (hi : QI X (PySem.Expr.Name t px) iter wi) (hf : ∀ (cl : List (PySem.Str × PySem.Addr)) (C : PySem.Addr) (s : PySem.Shared) (H : L2.Hp) (fp : List PySem.Addr), QIf (L2.Cx.comp X sc cl C (t :: ys) s H fp) ifs tc) (he : ∀ (cl : List (PySem.Str × PySem.Addr)) (C : PySem.Addr) (s : PySem.Shared) (H : L2.Hp) (fp : List PySem.Addr), QE (L2.Cx.comp X sc cl C (t :: ys) s H fp) elt te) (hs : ∀ (x : PySem.Value), PySem.foldedSetIterable iter (L2.Cx.env X) x = Pure.pure x := by intro _; rfl) : QE X (PySem.Expr.ListComp elt [{ target := PySem.Expr.Name t px, iter := iter, ifs := ifs, is_async := 0 }] sc pos) (L2.tComp wi js tc te) := ⟨@L2.pe_comp _ _ _ _ _ _ _ _ _ _ _ _ _ hc hck hi.h (fun cl C s H fp => (hf cl C s H fp).h) (fun cl C s H fp => (he cl C s H fp).h) hs⟩
theorem qe_call {X : L2.Cx} {CX : L2.CXT} {k : Nat} {f : PySem.Addr} {fd : PySem.FuncData} {ps : List PySem.Str} {sp : L2.Sp} {dvs : List L2.V} {ds : List PySem.Value} {E : L2.XK} {x : PySem.Str} {p : PySem.Pos} {pos : PySem.Pos} {e : PySem.Expr} {es : List PySem.Expr} {t : L2.TA} (F : L2.FnOk (L2.Cx.prog X) (L2.Cx.w X) (L2.Cx.K X) (L2.Cx.mg X) (L2.Cx.base X) CX k f fd ps sp) (hr : L2.Room k (L2.Cx.A X)) (hg : L2.Gl X x) (hm : L2.Cx.mg X x = Option.some (PySem.Value.ref f)) (hk : PySem.W.keepIn (L2.Cx.K X) (PySem.Value.ref f) = Bool.true) (hb : L2.Binds (L2.Cx.K X) fd ps ds) (hd : L2.Vals dvs ds) (hx : L2.Passes CX X E) (ha : QA X (e :: es) t) (hdb : (x == PySem.Str.ofString "__debug__") = Bool.false := by decide) (he : PySem.starEach (e :: es) (L2.Cx.env X) = (Bool.false, PySem.eval e (L2.Cx.env X)) :: PySem.starEach es (L2.Cx.env X) := by rfl) (hpl : (List.any (PySem.backTo pos (PySem.starEach es (L2.Cx.env X))) fun (x : Bool × PySem.Sem PySem.Value) => Prod.fst x) = Bool.false := by rfl) : QE X (PySem.Expr.Call (PySem.Expr.Name x p) (e :: es) [] pos) (L2.tCall sp dvs E t) := ⟨@L2.pe_call _ _ _ _ _ _ _ _ _ _ _ _ _ _ _ _ F hr hg hm hk hb hd hx ha.h hdb he hpl⟩
theorem qe_callB {X : L2.Cx} {x : PySem.Str} {p : PySem.Pos} {pos : PySem.Pos} {e : PySem.Expr} {es : List PySem.Expr} {t : L2.TA} {id : String} {r : List L2.V → L2.Hp → L2.VK → Prop} (hc : L2.CallR X (PySem.Value.builtin id) r) (hg : L2.Gl X x) (hm : L2.Cx.mg X x = Option.none) (hv : PySem.bootBuiltins x = Option.some (PySem.Value.builtin id)) (ha : QA X (e :: es) t) (hn : x ≠ PySem.Str.ofString "__name__" := by decide) (hdb : (x == PySem.Str.ofString "__debug__") = Bool.false := by decide) (he : PySem.starEach (e :: es) (L2.Cx.env X) = (Bool.false, PySem.eval e (L2.Cx.env X)) :: PySem.starEach es (L2.Cx.env X) := by rfl) (hpl : (List.any (PySem.backTo pos (PySem.starEach es (L2.Cx.env X))) fun (x : Bool × PySem.Sem PySem.Value) => Prod.fst x) = Bool.false := by rfl) : QE X (PySem.Expr.Call (PySem.Expr.Name x p) (e :: es) [] pos) (L2.tCB r t) := ⟨@L2.pe_callB _ _ _ _ _ _ _ _ _ hc hg hm hv ha.h hn hdb he hpl⟩
theorem qe_callTy {X : L2.Cx} {x : PySem.Str} {p : PySem.Pos} {pos : PySem.Pos} {e : PySem.Expr} {es : List PySem.Expr} {t : L2.TA} {T : String} {r : List L2.V → L2.Hp → L2.VK → Prop} (hc : L2.CallR X (PySem.Value.type T) r) (hg : L2.Gl X x) (hm : L2.Cx.mg X x = Option.none) (hv : PySem.bootBuiltins x = Option.some (PySem.Value.type T)) (ha : QA X (e :: es) t) (hn : x ≠ PySem.Str.ofString "__name__" := by decide) (hdb : (x == PySem.Str.ofString "__debug__") = Bool.false := by decide) (he : PySem.starEach (e :: es) (L2.Cx.env X) = (Bool.false, PySem.eval e (L2.Cx.env X)) :: PySem.starEach es (L2.Cx.env X) := by rfl) (hpl : (List.any (PySem.backTo pos (PySem.starEach es (L2.Cx.env X))) fun (x : Bool × PySem.Sem PySem.Value) => Prod.fst x) = Bool.false := by rfl) : QE X (PySem.Expr.Call (PySem.Expr.Name x p) (e :: es) [] pos) (L2.tCB r t) := ⟨@L2.pe_callTy _ _ _ _ _ _ _ _ _ hc hg hm hv ha.h hn hdb he hpl⟩
theorem qe_bm {X : L2.Cx} {o : PySem.Expr} {e : PySem.Expr} {es : List PySem.Expr} {to : L2.TE} {t : L2.TA} {name : PySem.Str} {apos : PySem.Pos} {cpos : PySem.Pos} {T : String} {id : String} {r : L2.V → List L2.V → L2.Hp → L2.VK → Prop} (pa : PySem.PlainAttrs T) (slot : PySem.Slot T name id) (hty : PySem.typeOf (PySem.Value.builtin id) = Pure.pure (PySem.Value.type "method_descriptor")) (hm : L2.MtR X id r) (ho : QE X o to) (ha : QA X (e :: es) t) (hbase : PySem.attributeBase o name (L2.Cx.env X) (PySem.eval o (L2.Cx.env X)) = PySem.eval o (L2.Cx.env X) := by rfl) (hfew : (((List.all (PySem.backTo cpos (PySem.starEach (e :: es) (L2.Cx.env X))) fun (x : Bool × PySem.Sem PySem.Value) => !Prod.fst x) && List.all (PySem.backToKw cpos (PySem.keywordEach [] (L2.Cx.env X))) fun (x : Option PySem.Str × PySem.Sem PySem.Value) => Option.isSome (Prod.fst x)) && Decidable.decide ((List.length (e :: es) + List.length ([] : List PySem.Keyword) + if List.isEmpty ([] : List PySem.Keyword) = Bool.true then 0 else 1) < 30)) = Bool.true := by rfl) (hline : (PySem.Pos.endLine apos == PySem.Pos.line cpos) = Bool.true := by rfl) (hs : PySem.starEach (e :: es) (L2.Cx.env X) = (Bool.false, PySem.eval e (L2.Cx.env X)) :: PySem.starEach es (L2.Cx.env X) := by rfl) (hplain : (List.any (PySem.backTo cpos (PySem.starEach es (L2.Cx.env X))) fun (x : Bool × PySem.Sem PySem.Value) => Prod.fst x) = Bool.false := by rfl) : QE X (PySem.Expr.Call (PySem.Expr.Attribute o name apos) (e :: es) [] cpos) (L2.tBM (L2.Cx.K X) T r to t) := ⟨@L2.pe_bm _ _ _ _ _ _ _ _ _ _ _ _ pa slot hty hm ho.h ha.h hbase hfew hline hs hplain⟩
theorem qe_bm0 {X : L2.Cx} {o : PySem.Expr} {to : L2.TE} {name : PySem.Str} {apos : PySem.Pos} {cpos : PySem.Pos} {T : String} {id : String} {r : L2.V → List L2.V → L2.Hp → L2.VK → Prop} (pa : PySem.PlainAttrs T) (slot : PySem.Slot T name id) (hty : PySem.typeOf (PySem.Value.builtin id) = Pure.pure (PySem.Value.type "method_descriptor")) (hm : L2.MtR X id r) (ho : QE X o to) (hbase : PySem.attributeBase o name (L2.Cx.env X) (PySem.eval o (L2.Cx.env X)) = PySem.eval o (L2.Cx.env X) := by rfl) (hline : (PySem.Pos.endLine apos == PySem.Pos.line cpos) = Bool.true := by rfl) : QE X (PySem.Expr.Call (PySem.Expr.Attribute o name apos) [] [] cpos) (L2.tBM0 (L2.Cx.K X) T r to) := ⟨@L2.pe_bm0 _ _ _ _ _ _ _ _ _ pa slot hty hm ho.h hbase hline⟩
theorem qt_not {X : L2.Cx} {a : PySem.Expr} {pos : PySem.Pos} {tA : L2.TT} (ha : QT X a tA) : QT X (PySem.Expr.UnaryOp PySem.UnaryOp.Not a pos) (L2.tNot tA) := ⟨@L2.pt_not _ _ _ _ ha.h⟩
theorem qt_val {X : L2.Cx} {e : PySem.Expr} {t : L2.TE} (h : QE X e t) (he : ∀ (whole : PySem.Sem PySem.Value), PySem.isTrue e (L2.Cx.env X) whole = (do let v ← whole; PySem.standAt (PySem.Expr.pos e); PySem.holding [v] (PySem.truthy v)) := by intro _; rfl) : QT X e (L2.tB t) := ⟨@L2.pt_val _ _ _ h.h he⟩
theorem qt_cmpR {X : L2.Cx} {a : PySem.Expr} {b : PySem.Expr} {ta : L2.TE} {tb : L2.TE} {pos : PySem.Pos} {op : PySem.CmpOp} {r : L2.R2} (ho : L2.OpR X (PySem.compareOp op) r) (ha : QE X a ta) (hb : QE X b tb) (hm : PySem.behindInMarks op b = Bool.false) : QT X (PySem.Expr.Compare a [op] [b] pos) (L2.tTest (L2.tOp r ta tb)) := ⟨@L2.pt_cmpR _ _ _ _ _ _ _ _ ho ha.h hb.h hm⟩
theorem qt_chain {X : L2.Cx} {a : PySem.Expr} {b : PySem.Expr} {c : PySem.Expr} {ta : L2.TE} {tb : L2.TE} {tc : L2.TE} {pos : PySem.Pos} {op : PySem.CmpOp} {op' : PySem.CmpOp} {r : L2.R2} {r' : L2.R2} (ho : L2.OpR X (PySem.compareOp op) r) (ho' : L2.OpR X (PySem.compareOp op') r') (ha : QE X a ta) (hb : QE X b tb) (hc : QE X c tc) (hm : PySem.lastMarks [op, op'] [b, c] = Bool.false := by with_unfolding_all rfl) : QT X (PySem.Expr.Compare a [op, op'] [b, c] pos) (L2.tTest (L2.tChain r r' ta tb tc)) := ⟨@L2.pt_chain _ _ _ _ _ _ _ _ _ _ _ _ ho ho' ha.h hb.h hc.h hm⟩
theorem qw_and {X : L2.Cx} {a : PySem.Expr} {b : PySem.Expr} {pos : PySem.Pos} {tA : L2.TT} {tB' : L2.TT} {rest : List PySem.Expr} (ha : QT X a tA) (hb : QW X (PySem.Expr.BoolOp PySem.BoolOp.And (b :: rest) pos) tB') : QW X (PySem.Expr.BoolOp PySem.BoolOp.And (a :: b :: rest) pos) (L2.tAnd tA tB') := ⟨@L2.pw_and _ _ _ _ _ _ _ ha.h hb.h⟩
theorem qw_or {X : L2.Cx} {a : PySem.Expr} {b : PySem.Expr} {pos : PySem.Pos} {tA : L2.TT} {tB' : L2.TT} {rest : List PySem.Expr} (ha : QT X a tA) (hb : QW X (PySem.Expr.BoolOp PySem.BoolOp.Or (b :: rest) pos) tB') : QW X (PySem.Expr.BoolOp PySem.BoolOp.Or (a :: b :: rest) pos) (L2.tOr tA tB') := ⟨@L2.pw_or _ _ _ _ _ _ _ ha.h hb.h⟩
theorem qw_and1 {X : L2.Cx} {a : PySem.Expr} {pos : PySem.Pos} {tA : L2.TT} (ha : QT X a tA) : QW X (PySem.Expr.BoolOp PySem.BoolOp.And [a] pos) tA := ⟨@L2.pw_and1 _ _ _ _ ha.h⟩
theorem qw_or1 {X : L2.Cx} {a : PySem.Expr} {pos : PySem.Pos} {tA : L2.TT} (ha : QT X a tA) : QW X (PySem.Expr.BoolOp PySem.BoolOp.Or [a] pos) tA := ⟨@L2.pw_or1 _ _ _ _ ha.h⟩
theorem qw_pt {X : L2.Cx} {e : PySem.Expr} {t : L2.TT} (h : QW X e t) : QT X e t := ⟨@L2.PW.pt _ _ _ h.h⟩
theorem qo_some {X : L2.Cx} {e : PySem.Expr} {te : L2.TE} (h : QE X e te) : QO X (Option.some e) (L2.tPart te) := ⟨@L2.po_some _ _ _ h.h⟩
theorem qi_list {X : L2.Cx} {tg : PySem.Expr} {l : PySem.Expr} {tl : L2.TE} (hl : QE X l tl) : QI X tg l (L2.iList (L2.Cx.K X) tl) := ⟨@L2.pi_list _ _ _ _ hl.h⟩
theorem qi_tup {X : L2.Cx} {tg : PySem.Expr} {l : PySem.Expr} {tl : L2.TE} (hl : QE X l tl) : QI X tg l (L2.iTup (L2.Cx.K X) tl) := ⟨@L2.pi_tup _ _ _ _ hl.h⟩
theorem qi_range1 {X : L2.Cx} {tg : PySem.Expr} {a : PySem.Expr} {ta : L2.TA} {p : PySem.Pos} {pos : PySem.Pos} (hg : L2.Gl X (PySem.Str.ofString "range")) (hm : L2.Cx.mg X (PySem.Str.ofString "range") = Option.none) (ha : QA X [a] ta) (hs : PySem.starEach [a] (L2.Cx.env X) = [(Bool.false, PySem.eval a (L2.Cx.env X))] := by rfl) : QI X tg (PySem.Expr.Call (PySem.Expr.Name (PySem.Str.ofString "range") p) [a] [] pos) (L2.iRng1 ta) := ⟨@L2.pi_range1 _ _ _ _ _ _ hg hm ha.h hs⟩
theorem qg_name {X : L2.Cx} {pos : PySem.Pos} {i : Nat} {x : PySem.Str} (hN : List.Nodup (L2.Cx.N X)) (hi : (L2.Cx.N X)[i]? = Option.some x) (hx : L2.Loc (PySem.Env.scope (L2.Cx.env X)) x) (hf : L2.Cx.fn X x = Bool.true ∨ List.lookup x (PySem.Scope.names (PySem.Env.scope (L2.Cx.env X))) = Option.some PySem.NameKind.local := by first | exact .inl rfl | exact .inr rfl | assumption) : QG X (PySem.Expr.Name x pos) (L2.gName i) := ⟨@L2.pg_name _ _ _ _ hN hi hx hf⟩
theorem qg_tup {X : L2.Cx} {pos : PySem.Pos} {es : List PySem.Expr} {k : Nat} {t : L2.TGs} {n : Nat} (hc : L2.Cx.calm X = Bool.true) (h : QGs X es t) (hn : List.length (PySem.assignEach es (L2.Cx.env X)) = n := by rfl) (hst : List.findIdx? (fun (x : Bool × (PySem.Value → PySem.Sem Unit)) => Prod.fst x) (PySem.assignEach es (L2.Cx.env X)) = Option.none := by rfl) : QG X (PySem.Expr.Tuple es k pos) (L2.gTup (L2.Cx.K X) n t) := ⟨@L2.pg_tup _ _ _ _ _ _ hc h.h hn hst⟩
theorem qgs_cons {X : L2.Cx} {e : PySem.Expr} {es : List PySem.Expr} {t : L2.TG} {u : L2.TGs} (h1 : QG X e t) (h2 : QGs X es u) (hs : List.map (fun (x : Bool × (PySem.Value → PySem.Sem Unit)) => Prod.snd x) (PySem.assignEach (e :: es) (L2.Cx.env X)) = PySem.assign e (L2.Cx.env X) :: List.map (fun (x : Bool × (PySem.Value → PySem.Sem Unit)) => Prod.snd x) (PySem.assignEach es (L2.Cx.env X)) := by rfl) : QGs X (e :: es) (L2.gCons t u) := ⟨@L2.pgs_cons _ _ _ _ _ h1.h h2.h hs⟩
theorem qaT {X : L2.Cx} {es : List PySem.Expr} {te : L2.TE} {t : L2.TA} {a : List PySem.Expr} {k : Nat} {p : PySem.Pos} (ha : QE X (PySem.Expr.Tuple a k p) te) (hr : QA X es t) : QA X (PySem.Expr.Tuple a k p :: es) (L2.tCons te t) := ⟨@L2.paT _ _ _ _ _ _ _ ha.h hr.h⟩
theorem qaL {X : L2.Cx} {es : List PySem.Expr} {te : L2.TE} {t : L2.TA} {a : List PySem.Expr} {p : PySem.Pos} (ha : QE X (PySem.Expr.List a p) te) (hr : QA X es t) : QA X (PySem.Expr.List a p :: es) (L2.tCons te t) := ⟨@L2.paL _ _ _ _ _ _ ha.h hr.h⟩
theorem qaC {X : L2.Cx} {es : List PySem.Expr} {te : L2.TE} {t : L2.TA} {c : PySem.Const} {k : Nat} {p : PySem.Pos} (ha : QE X (PySem.Expr.Constant c k p) te) (hr : QA X es t) : QA X (PySem.Expr.Constant c k p :: es) (L2.tCons te t) := ⟨@L2.paC _ _ _ _ _ _ _ ha.h hr.h⟩
theorem qaN {X : L2.Cx} {es : List PySem.Expr} {te : L2.TE} {t : L2.TA} {x : PySem.Str} {p : PySem.Pos} (ha : QE X (PySem.Expr.Name x p) te) (hr : QA X es t) : QA X (PySem.Expr.Name x p :: es) (L2.tCons te t) := ⟨@L2.paN _ _ _ _ _ _ ha.h hr.h⟩
theorem qaB {X : L2.Cx} {es : List PySem.Expr} {te : L2.TE} {t : L2.TA} {l : PySem.Expr} {r : PySem.Expr} {o : PySem.Operator} {p : PySem.Pos} (ha : QE X (PySem.Expr.BinOp l o r p) te) (hr : QA X es t) : QA X (PySem.Expr.BinOp l o r p :: es) (L2.tCons te t) := ⟨@L2.paB _ _ _ _ _ _ _ _ ha.h hr.h⟩
theorem qaS {X : L2.Cx} {es : List PySem.Expr} {te : L2.TE} {t : L2.TA} {v : PySem.Expr} {i : PySem.Expr} {p : PySem.Pos} (ha : QE X (PySem.Expr.Subscript v i p) te) (hr : QA X es t) : QA X (PySem.Expr.Subscript v i p :: es) (L2.tCons te t) := ⟨@L2.paS _ _ _ _ _ _ _ ha.h hr.h⟩
theorem qaK {X : L2.Cx} {es : List PySem.Expr} {te : L2.TE} {t : L2.TA} {f : PySem.Expr} {a : List PySem.Expr} {k : List PySem.Keyword} {p : PySem.Pos} (ha : QE X (PySem.Expr.Call f a k p) te) (hr : QA X es t) : QA X (PySem.Expr.Call f a k p :: es) (L2.tCons te t) := ⟨@L2.paK _ _ _ _ _ _ _ _ ha.h hr.h⟩
theorem qaM {X : L2.Cx} {es : List PySem.Expr} {te : L2.TE} {t : L2.TA} {l : PySem.Expr} {o : List PySem.CmpOp} {c : List PySem.Expr} {p : PySem.Pos} (ha : QE X (PySem.Expr.Compare l o c p) te) (hr : QA X es t) : QA X (PySem.Expr.Compare l o c p :: es) (L2.tCons te t) := ⟨@L2.paM _ _ _ _ _ _ _ _ ha.h hr.h⟩
theorem qaU {X : L2.Cx} {es : List PySem.Expr} {te : L2.TE} {t : L2.TA} {o : PySem.UnaryOp} {v : PySem.Expr} {p : PySem.Pos} (ha : QE X (PySem.Expr.UnaryOp o v p) te) (hr : QA X es t) : QA X (PySem.Expr.UnaryOp o v p :: es) (L2.tCons te t) := ⟨@L2.paU _ _ _ _ _ _ _ ha.h hr.h⟩
theorem qaE {X : L2.Cx} {es : List PySem.Expr} {te : L2.TE} {t : L2.TA} {e : PySem.Expr} {g : List PySem.Comprehension} {s : PySem.Scope} {p : PySem.Pos} (ha : QE X (PySem.Expr.ListComp e g s p) te) (hr : QA X es t) : QA X (PySem.Expr.ListComp e g s p :: es) (L2.tCons te t) := ⟨@L2.paE _ _ _ _ _ _ _ _ ha.h hr.h⟩
theorem qv {X : L2.Cx} (i : Nat) {x : PySem.Str} {pos : PySem.Pos} (hN : (L2.Cx.N X)[i]? = Option.some x := by rfl) (hv : L2.Vis (PySem.Env.scope (L2.Cx.env X)) x := by first | exact Or.inl rfl | exact Or.inr (Or.inl rfl) | exact Or.inr (Or.inr rfl)) (hd : (x == PySem.Str.ofString "__debug__") = Bool.false := by decide) (hcd : (x == PySem.Str.ofString "__classdict__") = Bool.false := by decide) : QE X (PySem.Expr.Name x pos) (L2.tVar i) := ⟨@L2.pv _ i _ _ hN hv hd hcd⟩
theorem qe_int {X : L2.Cx} {i : Int} {j : Nat} {pos : PySem.Pos} : QE X (PySem.Expr.Constant (PySem.Const.int i) j pos) (L2.tC (L2.V.int i)) := ⟨@L2.pe_int _ _ _ _⟩
theorem qe_str {X : L2.Cx} {x : PySem.Str} {j : Nat} {pos : PySem.Pos} : QE X (PySem.Expr.Constant (PySem.Const.str x) j pos) (L2.tC (L2.V.str x)) := ⟨@L2.pe_str _ _ _ _⟩
theorem qe_bl {X : L2.Cx} {b : Bool} {j : Nat} {pos : PySem.Pos} : QE X (PySem.Expr.Constant (PySem.Const.bool b) j pos) (L2.tC (L2.V.bl b)) := ⟨@L2.pe_bl _ _ _ _⟩
theorem qe_glob {X : L2.Cx} {x : PySem.Str} {v : L2.V} {u : PySem.Value} {pos : PySem.Pos} (hg : L2.Gl X x) (hm : L2.Cx.mg X x = Option.some u) (r : L2.RelV v u) (hd : (x == PySem.Str.ofString "__debug__") = Bool.false := by decide) : QE X (PySem.Expr.Name x pos) (L2.tC v) := ⟨@L2.pe_glob _ _ _ _ _ hg hm r hd⟩
theorem qe_bltn {X : L2.Cx} {x : PySem.Str} {v : L2.V} {u : PySem.Value} {pos : PySem.Pos} (hg : L2.Gl X x) (hm : L2.Cx.mg X x = Option.none) (hv : PySem.bootBuiltins x = Option.some u) (r : L2.RelV v u) (hn : x ≠ PySem.Str.ofString "__name__" := by decide) (hd : (x == PySem.Str.ofString "__debug__") = Bool.false := by decide) : QE X (PySem.Expr.Name x pos) (L2.tC v) := ⟨@L2.pe_bltn _ _ _ _ _ hg hm hv r hn hd⟩
theorem qss_nil {X : L2.Cx} : QSs X [] L2.tNext := ⟨@L2.pss_nil _⟩
theorem qss_never {X : L2.Cx} {sts : List PySem.Stmt} : QSs X sts L2.tNever := ⟨@L2.pss_never _ _⟩
theorem qa_nil {X : L2.Cx} : QA X [] L2.tNil := ⟨@L2.pa_nil _⟩
theorem qo_none {X : L2.Cx} : QO X Option.none L2.tNoPart := ⟨@L2.po_none _⟩
theorem qif_nil {X : L2.Cx} : QIf X [] L2.tYes := ⟨@L2.pif_nil _⟩
theorem qgs_nil {X : L2.Cx} : QGs X [] L2.gNil := ⟨@L2.pgs_nil _⟩
section
variable {P : Program} {w : World} {K : PySem.W.Frag} {mg : Str → Option Value} {base : Heap}
theorem Fun.okQ {x qual : Str} {st : Stmt} {f : Addr} {fd : FuncData} {N ps : List Str} {k : Nat} {sp : Sp} (F : Fun K x qual st f fd) (S : FnScope N ps (defScope st)) (len : ∀ vs H Q E, sp vs H Q E → vs.length = ps.length)
    (hbody : ∀ (cdv : Value) (A : Around) (outer : List Env) (s : Shared) (H : Hp) (vs : List V) (Q : VK) (E : XK), Room k (A.deeper (envOfC qual (defScope st) s.heap.objs.size f cdv)) → sp vs H Q E →
      ∃ t, QSs (cxOf CX0 P w K mg base N qual (defScope st) f cdv A outer s H E).nox (defBody st) t ∧ t { nx := fun _ H' => Q .non H', rt := Q } (start N vs) H) : FnOk P w K mg base CX0 (k + 1) f fd ps sp :=
  F.ok S len fun cdv A outer s H vs Q E hr h => let ⟨t, h1, h2⟩ := hbody cdv A outer s H vs Q E hr h; ⟨t, h1.h, h2⟩
end
end L2
set_option Elab.async false
set_option linter.all false
set_option maxRecDepth 100000
set_option maxHeartbeats 4000000
namespace L2
open PySem PySem.Spec PyProof.Rows
abbrev vbm : List Value := [.type "ValueError", .type "Exception", .type "BaseException", .type "object"]
abbrev ExcC (K : PySem.W.Frag) (C : Addr) : Prop := PySem.W.excIn K C vbm "ValueError.__new__" = true
theorem exc_obj {K : PySem.W.Frag} {h : Heap} {C : Addr} {bmB : List Value} {newId : String} (X : K.In h) (q : PySem.W.excIn K C bmB newId = true) :
    ∃ bm N nm qn bs hdct sn sub ab col dd k0 k1 k2 k3 k5 mN, h.get? C = some (excClassObj nm qn C N bs bm hdct sn sub ab col dd k0 k1 k2 k3 k5 newId) ∧ h.Ns N mN ∧ mN "__init__" = none ∧ OwnTail h bmB bm ∧
      ∀ v b, PySem.W.mroIn K C v = some b → (Value.ref C :: bm).contains v = b := by
  unfold PySem.W.excIn at q
  split at q
  · rename_i dd cd sl ho
    split at q
    · rename_i C' bm k0 k1 k2 k3 n k5 hm hs
      simp only [Bool.and_eq_true, beq_iff_eq, Bool.not_eq_true'] at q
      obtain ⟨⟨⟨⟨⟨rfl, rfl⟩, hdel⟩, ht⟩, hok⟩, hni⟩ := q
      obtain ⟨nm, bs, mro, ns, qn, hd, sn, sub, ab, col, del⟩ := cd
      dsimp only at hm hdel hok hni
      subst hm hdel
      have hsl : sl = #[k0, k1, k2, k3, some (.builtin n), k5] := by
        obtain ⟨l⟩ := sl
        simp only at hs
        rw [hs]
      subst hsl
      refine ⟨bm, ns, nm, qn, bs, hd, sn, sub, ab, col, dd, k0, k1, k2, k3, k5, _, X _ _ ho, .of_isNs (PySem.W.isNs_of_in X hok), PySem.W.nsMap_none_of_in X hok hni, PySem.W.tail_of_in X ht, fun v b e => ?_⟩
      unfold PySem.W.mroIn PySem.W.clsIn at e
      rw [ho] at e
      simpa using e
    · cases q
  · cases q
theorem excMatches_own {M : Model} {A : Around} {E : Value → Shared → Prop} {K : PySem.W.Frag} {h : Heap} {g : Array GenState} {d : Drawn} {t : Nat} {os : OsState} {e C D : Addr} {oe : Obj} {b : Bool} {Q : Bool → Shared → Prop} (X : K.In h)
    (hC : ExcC K C) (hD : ExcC K D) (he : h.get? e = some oe) (hcls : oe.cls = .ref C) (hm : PySem.W.mroIn K C (.ref D) = some b) (hq : Q b ⟨h, g, d, t, os⟩) : wpAny M A (excMatches (.ref e) (.ref D)) Q E ⟨h, g, d, t, os⟩ := by
  obtain ⟨bm, N, nm, qn, bs, hdct, sn, sub, ab, col, dd, k0, k1, k2, k3, k5, mN, oC, _, _, _, mroC⟩ := exc_obj X hC
  obtain ⟨bm', N', nm', qn', bs', hdct', sn', sub', ab', col', dd', l0, l1, l2, l3, l5, mN', oD, _, _, TD, _⟩ := exc_obj X hD
  have hcB : (Value.ref D :: bm').contains (.type "BaseException") = true := by
    rw [List.contains_cons, TD.hasType (X := "BaseException") (b := true) (by decide), Bool.or_true]
  have hcC : (Value.ref C :: bm).contains (.ref D) = b := mroC _ _ hm
  have f := tc_notTuple
  unfold excMatches
  repeat (first | (with_reducible refine wpAny_loadPart_at he ?_; rw [hcls]) | with_reducible refine wpAny_loadPart_at oD ?_ | (with_reducible refine wpAny_isSubtype_exc oD ?_; rw [hcB]) | (with_reducible refine wpAny_isSubtype_exc oC ?_; rw [hcC]) | wp_step)
  all_goals (cases b <;> first | exact hq | (wp_walk; exact hq))
theorem ObjOk.there {P : Program} {w : World} {H : Hp} {h : Heap} {a : Addr} {o : HO} (x : ObjOk P w H h a o) : ∃ ob, h.get? a = some ob := by
  cases o with
  | lst xs => obtain ⟨_, _, _, _, e⟩ := x; exact ⟨_, e⟩
  | tup xs => obtain ⟨_, _, _, p⟩ := x; obtain ⟨ob, e, _⟩ := p; exact ⟨ob, e⟩
  | dK kvs => obtain ⟨_, _, _, _, o, _, _, e, _⟩ := x; exact ⟨_, e⟩
  | dT kvs => obtain ⟨_, _, _, _, o, _, _, e, _⟩ := x; exact ⟨_, e⟩
  | set S n => obtain ⟨o, _, _, _, e, _⟩ := x; exact ⟨_, e⟩
  | ins C dx fs => obtain ⟨_, _, _, e, _⟩ := x; exact ⟨_, e⟩
  | own y => exact x
  | xd fs => obtain ⟨_, ⟨_, _, _, e, _⟩, _⟩ := x; exact ⟨_, e⟩
  | rng lo hi => obtain ⟨_, _, _, e⟩ := x; exact ⟨_, e⟩
  | frz ob u => obtain ⟨e, _⟩ := x; exact ⟨_, e⟩
  | tbl ps => exact ⟨_, show h.get? a = some _ from x⟩
  | met f y => exact ⟨_, show h.get? a = some _ from x⟩
  | ext φ => obtain ⟨_, e, _⟩ := x; exact e
structure XO (P : Program) (w : World) (outer : List Env) (H : Hp) (s : Shared) (cls : Value) (a : Addr) (H' : Hp) (s' : Shared) : Prop where
  os : s'.os = s.os
  bare : AllBare s'.gens
  un : Un (frs outer) [] H H' s.heap s'.heap
  hok : HOk P w H' s'.heap
  new : s.heap.get? a = none
  free : H' a = none
  fly : ∃ B a0, Heap.FlyingW B outer a cls a0 s'.heap ∧ ∀ b o, (H' b ≠ none ∨ ∃ o', s.heap.get? b = some o') → b ∉ frs outer → s'.heap.get? b = some o → B.get? b = some o
def CXe (P : Program) (w : World) : CXT := fun outer H s E e s' => ∃ a cls H', e = .ref a ∧ XO P w outer H s cls a H' s' ∧ E cls none H'
section
variable {X : Cx} {pins : List (Addr × Obj)} {σ : St} {H H' : Hp} {s s' : Shared} {M : Model} {E' : Value → Shared → Prop} {a : Addr} {cls : Value}
theorem Un.fly {fs : List Addr} {H0 : Hp} {h0 h h' B : Heap} {fr : List Addr} (u : Un fs [] H0 H h0 h) (hfs : ∀ b ∈ fr, b ∈ fs ∨ ∀ o, h0.get? b ≠ some o) (stay : B.StaysIn h') (big : ∀ b o, h.get? b = some o → b ∉ fr → (H b ≠ none ∨ ∃ o', h0.get? b = some o') → B.get? b = some o)
    (slots : ∀ b o, h.get? b = some o → b ∈ fr → ∃ sl, h'.get? b = some { o with slots := sl }) (sub : ∀ b ∈ fs, b ∈ fr) : Un fs [] H0 H h0 h' where
  keep := fun b o q n hb hx => by
    have e := u.keep b o q n hb hx
    have hf : b ∉ fr := fun z => by
      rcases hfs b z with y | y
      · exact hb y
      · exact y o q
    exact stay b o (big b o e hf (.inr ⟨o, q⟩))
  slot := fun b o q n hb hx => by
    obtain ⟨sl, e⟩ := u.slot b o q n hb hx
    obtain ⟨sl', e'⟩ := slots b _ e (sub b hb)
    exact ⟨sl', e'⟩
  free := u.free
  there := fun b o q hx => by
    obtain ⟨o', e⟩ := u.there b o q hx
    by_cases hf : b ∈ fr
    · obtain ⟨sl, e'⟩ := slots b o' e hf
      exact ⟨_, e'⟩
    · exact ⟨o', stay b o' (big b o' e hf (.inr ⟨o, q⟩))⟩
  tups := u.tups
  frzs := u.frzs
  tbls := u.tbls
theorem HOk.fly {P : Program} {w : World} {H : Hp} {h h' B : Heap} {fr : List Addr} (ok : HOk P w H h) (hfr : ∀ b ∈ fr, H b = none) (stay : B.StaysIn h') (big : ∀ b o, h.get? b = some o → b ∉ fr → H b ≠ none → B.get? b = some o) : HOk P w H h' := fun a o e => by
  refine (ok a o e).stay (fun b u hb q => ?_) (fun _ q => q) fun _ _ q => q
  have hn : H b ≠ none := by
    rcases hb with rfl | hb
    · rw [e]; exact fun z => nomatch z
    · rw [hb]; exact fun z => nomatch z
  exact stay b u (big b u q (fun z => hn (hfr b z)) hn)
theorem frs_cons {env : Env} {l : List Env} {L : Addr} (h : env.frame = some L) : frs (env :: l) = L :: frs l := by
  unfold frs
  rw [List.filterMap_cons, h]
theorem Inv.raise (I : Inv X pins σ H s) (hs : X.stack = X.env :: X.outer) (hf : X.env.frame = some X.env.locals) (hex : X.ex = []) {h1 : Heap} {args : List Value} (hx : Heap.MadeExcOf s.heap h1 a cls args) :
    wpAny M X.A (leaving X.env (.ref a)) (fun _ s'' => XO X.prog X.w X.outer X.H₀ X.s₀ cls a H s'') E' { s with heap := h1 } := by
  have hfr : X.A.frames = some (X.env :: X.outer) := by rw [← hs]; exact I.ok.frames
  have hFF : s.heap.FunFrames X.base (X.env :: X.outer) := by rw [← hs]; exact I.stack
  have hin : ∀ env ∈ (X.env :: X.outer), ∀ b, env.frame = some b → b ∈ frs (X.env :: X.outer) := fun env he b hb => List.mem_filterMap.mpr ⟨env, he, hb⟩
  have hfree : ∀ b ∈ frs (X.env :: X.outer), H b = none := by rw [← hs]; exact I.stkFree
  have ub : Un X.fs [] X.H₀ H X.s₀.heap s.heap := by have := I.base; rw [hex] at this; exact this
  have nL : ∀ o, X.s₀.heap.get? X.env.locals ≠ some o := fun o z => absurd (Nat.lt_of_lt_of_le (Heap.lt_size z) I.ok.above) (Nat.lt_irrefl _)
  have big : ∀ b o, s.heap.get? b = some o → b ∉ frs (X.env :: X.outer) → (PySem.W.hideAll s.heap (frs (X.env :: X.outer))).get? b = some o := fun b o e n => PySem.W.hideAll_get _ e n
  refine wpAny_leaves_madeW (base := PySem.W.hideAll s.heap (frs (X.env :: X.outer))) hfr hf (fun b o q => PySem.W.of_hideAll _ q) (PySem.W.funFrames_hide hFF hin) hx fun h' t fl _ _ up => ?_
  have slots : ∀ b o, s.heap.get? b = some o → b ∈ frs (X.env :: X.outer) → ∃ sl, h'.get? b = some { o with slots := sl } := fun b o e hb => by
    obtain ⟨_, o', e', nf⟩ := hFF.mem hb
    rw [e] at e'
    cases e'
    exact up b o (hx.keeps b o e) nf
  have hfs : ∀ b ∈ frs (X.env :: X.outer), b ∈ X.fs ∨ ∀ o, X.s₀.heap.get? b ≠ some o := fun b hb => by
    rw [frs_cons hf] at hb
    rcases List.mem_cons.mp hb with rfl | hb
    · exact .inr nL
    · exact .inl hb
  have sub : ∀ b ∈ X.fs, b ∈ frs (X.env :: X.outer) := fun b hb => by
    rw [frs_cons hf]
    exact List.mem_cons_of_mem _ hb
  refine ⟨I.os, I.bare, ub.fly hfs fl.1 (fun b o e n _ => big b o e n) slots sub, I.hok.fly hfree fl.1 (fun b o e n _ => big b o e n), ?_, ?_, _, _, fl, fun b o hb hn e => ?_⟩
  · cases q : X.s₀.heap.get? a with
    | none => rfl
    | some o =>
      obtain ⟨o', e⟩ := ub.there a o q (by simp)
      have := hx.new
      rw [e] at this
      cases this
  · cases q : H a with
    | none => rfl
    | some o =>
      obtain ⟨ob, e⟩ := (I.hok a o q).there
      have := hx.new
      rw [e] at this
      cases this
  · have hbs : ∃ ob, s.heap.get? b = some ob := by
      rcases hb with hb | ⟨o', hb⟩
      · cases q : H b with
        | none => exact absurd q hb
        | some u => exact (I.hok b u q).there
      · exact ub.there b o' hb (by simp)
    have hnL : b ∉ frs (X.env :: X.outer) := fun z => by
      rw [frs_cons hf] at z
      rcases List.mem_cons.mp z with rfl | z
      · rcases hb with hb | ⟨o', hb⟩
        · exact hb I.free
        · exact nL o' hb
      · exact hn z
    obtain ⟨ob, e1⟩ := hbs
    have e2 := big b ob e1 hnL
    have e3 := fl.1 b ob e2
    rw [e] at e3
    cases e3
    exact e2
theorem Inv.pass (I : Inv X pins σ H s) (hs : X.stack = X.env :: X.outer) (hf : X.env.frame = some X.env.locals) (hex : X.ex = []) (x : XO X.prog X.w X.stack H s cls a H' s') :
    wpAny M X.A (leaving X.env (.ref a)) (fun _ s'' => XO X.prog X.w X.outer X.H₀ X.s₀ cls a H' s'') E' s' := by
  rw [hs] at x
  have hfr : X.A.frames = some (X.env :: X.outer) := by rw [← hs]; exact I.ok.frames
  obtain ⟨B, a0, fly, big⟩ := x.fly
  have ub : Un X.fs [] X.H₀ H X.s₀.heap s.heap := by have := I.base; rw [hex] at this; exact this
  have nL : ∀ o, X.s₀.heap.get? X.env.locals ≠ some o := fun o z => absurd (Nat.lt_of_lt_of_le (Heap.lt_size z) I.ok.above) (Nat.lt_irrefl _)
  have hfree : ∀ b ∈ frs (X.env :: X.outer), H b = none := by rw [← hs]; exact I.stkFree
  have hFF : s.heap.FunFrames X.base (X.env :: X.outer) := by rw [← hs]; exact I.stack
  have hsub : ∀ b ∈ X.fs, b ∈ frs (X.env :: X.outer) := fun b hb => by
    rw [frs_cons hf]
    exact List.mem_cons_of_mem _ hb
  -- from the entry to where the callee left
  have ut : Un X.fs [] X.H₀ H' X.s₀.heap s'.heap := by
    have nofr : ∀ b o, X.s₀.heap.get? b = some o → b ∉ X.fs → b ∉ frs (X.env :: X.outer) := fun b o q hb z => by
      rw [frs_cons hf] at z
      rcases List.mem_cons.mp z with rfl | z
      · exact nL o q
      · exact hb z
    refine ⟨fun b o q n hb hx => x.un.keep b o (ub.keep b o q n hb hx) (ub.free b o q n hx) (nofr b o q hb) (by simp), fun b o q n hb hx => ?_, fun b o q n hx => ?_, fun b o q hx => ?_, fun b xs q => x.un.tups b xs (ub.tups b xs q), fun b o u q => x.un.frzs b o u (ub.frzs b o u q), fun b ps q => ?_⟩
    · obtain ⟨sl, e⟩ := ub.slot b o q n hb hx
      obtain ⟨sl', e'⟩ := x.un.slot b _ e (ub.free b o q n hx) (hsub b hb) (by simp)
      exact ⟨sl', e'⟩
    · obtain ⟨o', e⟩ := ub.there b o q hx
      exact x.un.free b o' e (ub.free b o q n hx) (by simp)
    · obtain ⟨o', e⟩ := ub.there b o q hx
      exact x.un.there b o' e (by simp)
    · obtain ⟨m1, e1⟩ := ub.tbls b ps q
      obtain ⟨m2, e2⟩ := x.un.tbls b _ e1
      exact ⟨m1 ++ m2, by rw [e2, Array.append_assoc]⟩
  have hfree' : ∀ b ∈ frs (X.env :: X.outer), H' b = none := fun b hb => by
    obtain ⟨_, o, e, _⟩ := hFF.mem hb
    exact x.un.free b o e (hfree b hb) (by simp)
  refine wpAny_leaves_onW hfr hf fly fun h' fl up => ?_
  have bigT : ∀ b o, s'.heap.get? b = some o → b ∉ frs (X.env :: X.outer) → (H' b ≠ none ∨ ∃ o', X.s₀.heap.get? b = some o') → B.get? b = some o := fun b o e n hb => by
    refine big b o ?_ n e
    rcases hb with hb | ⟨o', hb⟩
    · exact .inl hb
    · exact .inr (ub.there b o' hb (by simp))
  have slots : ∀ b o, s'.heap.get? b = some o → b ∈ frs (X.env :: X.outer) → ∃ sl, h'.get? b = some { o with slots := sl } := fun b o e hb => by
    obtain ⟨_, o', e', nf⟩ := fly.2.2.1.mem hb
    rw [e] at e'
    cases e'
    exact up b o e nf
  have hfs : ∀ b ∈ frs (X.env :: X.outer), b ∈ X.fs ∨ ∀ o, X.s₀.heap.get? b ≠ some o := fun b hb => by
    rw [frs_cons hf] at hb
    rcases List.mem_cons.mp hb with rfl | hb
    · exact .inr nL
    · exact .inl hb
  refine ⟨x.os.trans I.os, x.bare, ut.fly hfs fl.1 bigT slots hsub, x.hok.fly hfree' fl.1 (fun b o e n hb => bigT b o e n (.inl hb)), ?_, x.free, B, a0, fl, fun b o hb hn e => ?_⟩
  · cases q : X.s₀.heap.get? a with
    | none => rfl
    | some o =>
      obtain ⟨o', e⟩ := ub.there a o q (by simp)
      have := x.new
      rw [e] at this
      cases this
  · have hnL : b ∉ frs (X.env :: X.outer) := fun z => by
      rw [frs_cons hf] at z
      rcases List.mem_cons.mp z with rfl | z
      · rcases hb with hb | ⟨o', hb⟩
        · exact hb (hfree' _ (by rw [frs_cons hf]; exact List.mem_cons_self))
        · exact nL o' hb
      · exact hn z
    have hbs : ∃ ob, s'.heap.get? b = some ob := by
      rcases hb with hb | ⟨o', hb⟩
      · cases q : H' b with
        | none => exact absurd q hb
        | some u => exact (x.hok b u q).there
      · exact ut.there b o' hb (by simp)
    obtain ⟨ob, e1⟩ := hbs
    have e2 := bigT b ob e1 hnL hb
    have e3 := fl.1 b ob e2
    rw [e] at e3
    cases e3
    exact e2
end
end L2
set_option Elab.async false
set_option linter.all false
set_option maxRecDepth 100000
set_option maxHeartbeats 4000000
namespace L2
open PySem PySem.Spec PyProof.Rows
def Cx.hand (X : Cx) (a : Addr) : Cx := { X with A := X.A.mark (some (.ref a)), calm := false, xe := fun _ _ => False }
theorem Cx.Ok.hand {X : Cx} (ok : X.Ok) (a : Addr) : (X.hand a).Ok :=
  ⟨ok.mod, ok.kind, ok.glob, ok.blt, ok.above, ok.inj, ok.has, ok.cab, (fun z => nomatch z), ok.frames, ok.stk, ok.exf, ok.bs, ok.bsz, ok.noex, ok.exfs, ok.funs, ok.frf⟩
section
variable {X : Cx} {pins : List (Addr × Obj)} {σ : St} {H H' : Hp} {s s' : Shared} {a : Addr}
theorem Inv.hand (I : Inv X pins σ H s) (a : Addr) : Inv (X.hand a) pins σ H s := ⟨I.ok.hand a, I.os, I.bare, I.base, I.loc, I.cell, I.free, I.freeC, I.pin, I.hok, I.len⟩
theorem Inv.unhand (ok : X.Ok) (I : Inv (X.hand a) pins σ H s) : Inv X pins σ H s := ⟨ok, I.os, I.bare, I.base, I.loc, I.cell, I.free, I.freeC, I.pin, I.hok, I.len⟩
theorem Inv.track {o : HO} (I : Inv X pins σ H s) (hn : H a = none) (hnew : ∀ u, X.s₀.heap.get? a ≠ some u) (hok : ObjOk X.prog X.w (upd H a o) s.heap a o) (neL : a ≠ X.env.locals) (neC : ∀ x c, X.env.cells.lookup x = some c → c ≠ a) (neP : ∀ p ∈ X.pn ++ pins, p.1 ≠ a) : Inv X pins σ (upd H a o) s := by
  have ne : ∀ {b : Addr} {u : HO}, H b = some u → b ≠ a := fun e => ne_of_none e hn
  refine ⟨I.ok, I.os, I.bare, ⟨I.base.keep, I.base.slot, fun b u q n hx => ?_, I.base.there, fun b xs q => ?_, fun b u v q => ?_, fun b ps q => ?_⟩, I.loc, I.cell, ?_, fun x c e => ?_, fun p hp => ?_, fun b u q => ?_, I.len⟩
  · rw [upd_ne (fun z : b = a => hnew u (by rw [← z]; exact q))]
    exact I.base.free b u q n hx
  · have := I.base.tups b xs q
    rw [upd_ne (ne this)]
    exact this
  · have := I.base.frzs b u v q
    rw [upd_ne (ne this)]
    exact this
  · obtain ⟨m, e⟩ := I.base.tbls b ps q
    exact ⟨m, by rw [upd_ne (ne e)]; exact e⟩
  · rw [upd_ne (Ne.symm neL)]
    exact I.free
  · rw [upd_ne (neC x c e)]
    exact I.freeC x c e
  · obtain ⟨e, n, y⟩ := I.pin p hp
    exact ⟨e, by rw [upd_ne (neP p hp)]; exact n, y⟩
  · by_cases hb : b = a
    · subst hb
      rw [upd_same] at q
      cases q
      exact hok
    · rw [upd_ne hb] at q
      exact (I.hok b u q).stay (fun _ _ _ z => z) (fun c z => by rw [upd_ne (ne z)]; exact z) fun c xs z => by rw [upd_ne (ne z)]; exact z
theorem Inv.gone {i : Nat} {x : Str} {h' : Heap} {v : Option Value} {m : Str → Option Value} {tk : Nat} (I : Inv X pins σ H s) (hN : X.N.Nodup) (hi : X.N[i]? = some x) (hn : s.heap.Ns X.env.locals m)
    (hl : ∀ (i : Nat) (x : Str) (v : V), X.N[i]? = some x → σ[i]? = some (some v) → Vis X.env.scope x → ∃ u, RelV v u ∧ Look X.env s.heap m x u)
    (hn' : h'.Ns X.env.locals (fun y => if y = x then v else m y)) (hs : Heap.SameBut X.env.locals s.heap h') : Inv X pins (σ.set i none) H { s with heap := h', toks := tk } := by
  have cne := I.cne
  obtain ⟨oL, _, _, hoL, _⟩ := id hn
  refine ⟨I.ok, I.os, I.bare, ⟨fun b o e n hb hx => ?_, fun b o e n hb hx => ?_, I.base.free, fun b o e hx => ?_, I.base.tups, I.base.frzs, I.base.tbls⟩, ⟨_, hn', fun j y v' e1 e2 e3 => ?_⟩, fun y c e => ?_, I.free, I.freeC, fun p hp => ?_, fun b ob e => ?_, by simpa using I.len⟩
  · exact (hs.2 b (Nat.ne_of_lt (Nat.lt_of_lt_of_le (Heap.lt_size e) I.ok.above))).trans (I.base.keep b o e n hb hx)
  · obtain ⟨sl, e1⟩ := I.base.slot b o e n hb hx
    exact ⟨sl, (hs.2 b (Nat.ne_of_lt (Nat.lt_of_lt_of_le (Heap.lt_size e) I.ok.above))).trans e1⟩
  · obtain ⟨o', e1⟩ := I.base.there b o e hx
    exact ⟨o', (hs.2 b (Nat.ne_of_lt (Nat.lt_of_lt_of_le (Heap.lt_size e) I.ok.above))).trans e1⟩
  · by_cases hj : j = i
    · subst hj
      by_cases hlt : j < σ.length
      · rw [List.getElem?_set_self hlt] at e2; cases e2
      · rw [List.getElem?_eq_none (by simp; omega)] at e2; cases e2
    · rw [List.getElem?_set_ne (Ne.symm hj)] at e2
      obtain ⟨u', r', q⟩ := hl j y v' e1 e2 e3
      refine ⟨u', r', ?_⟩
      rcases q with ⟨k, e⟩ | ⟨k, c, e, z⟩
      · refine .inl ⟨k, ?_⟩
        have : y ≠ x := fun e => hj (nodup_ix hN e1 (e ▸ hi))
        simp [this, e]
      · exact .inr ⟨k, c, e, z.sameBut hs (cne y c e)⟩
  · obtain ⟨w', z⟩ := I.cell y c e
    exact ⟨w', z.sameBut hs (cne y c e)⟩
  · obtain ⟨e, n, ne, nf, d⟩ := I.pin p hp
    exact ⟨(hs.2 p.1 ne).trans e, n, ne, nf, d⟩
  · refine (I.hok b ob e).stay (fun c w' hc q => (hs.2 c ?_).trans q) (fun _ q => q) fun _ _ q => q
    rintro rfl
    rcases hc with rfl | hc
    · rw [I.free] at e; cases e
    · rw [I.free] at hc; cases hc
def tRaise (EX : Hp → Prop) (t : TA) : TS := fun _ σ H => t σ H fun vs H1 => vs.length ≤ 10 ∧ EX H1
theorem ps_raise {x : Str} {C : Addr} {e : Expr} {es : List Expr} {t : TA} {np cpos pos : Pos} {EX : Hp → Prop} (hc : X.calm = true) (hg : Gl X x) (hm : X.mg x = some (.ref C)) (he : ExcC X.K C) (ha : PA X (e :: es) t)
    (hx : ∀ pins σ H s h' a vs, Inv X pins σ H s → Heap.MadeExcOf s.heap h' a (.ref C) vs → EX H → X.xe (.ref a) { s with heap := h' })
    (hd : (x == ("__debug__" : Str)) = false := by decide) (hst : starEach (e :: es) X.env = (false, eval e X.env) :: starEach es X.env := by rfl) (hpl : (backTo cpos (starEach es X.env)).any (·.1) = false := by rfl) :
    PS X (.Raise (some (.Call (.Name x np) (e :: es) [] cpos)) none pos) (tRaise EX t) := by
  intro pins s σ H D I h
  obtain ⟨bm, N, nm, qn, bs, hdct, sn, sub, ab, col, dd, k0, k1, k2, k3, k5, mN, oC, hN, hni, TL, _⟩ := exc_obj (I.ok.mod.kin) he
  refine wpAny_Raise_call_subT (C := C) (nm := nm) (q := qn) (N := N) (bs := bs) (bm := bm) (hdct := hdct) (sn := sn) (sub := sub) (ab := ab) (col := col) (dd := dd) (k0 := k0) (k1 := k1) (k2 := k2) (k3 := k3) (k5 := k5)
    PySem.F.excBase_ValueError (mN := mN) (TL.hasType (by decide)) (I.ok.hd hc) (by rw [hst]; show (false || (backTo cpos (starEach es X.env)).any (·.1)) = false; rw [hpl]; rfl) hni (ld_glob I hg hm ⟨rfl, ?_⟩ hd)
  have hA := ha cpos pins s σ H _ I h
  rw [hst] at hA ⊢
  refine Calls.evalArgs_plain (thn hA fun us s1 ⟨vs, H1, I1, r, z, q⟩ => ⟨rfl, ?_, I1.bk _ _ oC, hN.keeps I1.bk, TL.keeps I1.bk, fun h' a hmk => hx pins σ H1 s1 h' a us I1 hmk q⟩)
  rw [← r.length]
  exact fits2 (by omega)
end
section
variable {P : Program} {w : World} {K : PySem.W.Frag} {mg : Str → Option Value} {base : Heap} {N : List Str} {qual : Str} {scope : Scope} {f : Addr} {cd : Value} {A : Around} {outer : List Env} {s₀ : Shared} {H₀ : Hp} {E : XK}
theorem xe_raise {C : Addr} : ∀ pins σ H s h' a vs, Inv (cxOf (CXe P w) P w K mg base N qual scope f cd A outer s₀ H₀ E) pins σ H s → Heap.MadeExcOf s.heap h' a (.ref C) vs → E (.ref C) none H →
    (cxOf (CXe P w) P w K mg base N qual scope f cd A outer s₀ H₀ E).xe (.ref a) { s with heap := h' } := fun pins σ H s h' a vs I hmk q =>
  wpAny_mono (Inv.raise (M := model P w) (E' := fun _ _ => False) I rfl rfl rfl hmk) (fun _ s'' x => ⟨a, .ref C, H, rfl, x, q⟩) fun _ _ z => z.elim
theorem pass_on : Passes (CXe P w) (cxOf (CXe P w) P w K mg base N qual scope f cd A outer s₀ H₀ E) E := fun pins σ H s e s' I h => by
  obtain ⟨a, cls, H', rfl, x, q⟩ := h
  exact wpAny_mono (Inv.pass (M := model P w) (E' := fun _ _ => False) I rfl rfl rfl x) (fun _ s'' y => ⟨a, cls, H', rfl, y, q⟩) fun _ _ z => z.elim
theorem Fun.okE {x qual : Str} {st : Stmt} {f : Addr} {fd : FuncData} {N ps : List Str} {k : Nat} {sp : Sp} (F : Fun K x qual st f fd) (S : FnScope N ps (defScope st)) (len : ∀ vs H Q E, sp vs H Q E → vs.length = ps.length)
    (hbody : ∀ (cdv : Value) (A : Around) (outer : List Env) (s : Shared) (H : Hp) (vs : List V) (Q : VK) (E : XK), Room k (A.deeper (envOfC qual (defScope st) s.heap.objs.size f cdv)) → sp vs H Q E →
      ∃ t, QSs (cxOf (CXe P w) P w K mg base N qual (defScope st) f cdv A outer s H E) (defBody st) t ∧ t { nx := fun _ H' => Q .non H', rt := Q } (start N vs) H) : FnOk P w K mg base (CXe P w) (k + 1) f fd ps sp := by
  obtain ⟨oc, od, kV, doc, pm, an, cdv, ct, osl, rfl, lk, hcd⟩ := F.ex
  refine fn_of lk hcd S len fun A outer s H vs Q E hr hsp => ?_
  obtain ⟨t, h, q⟩ := hbody cdv A outer s H vs Q E hr hsp
  exact ⟨t, h.h, q⟩
end
def excO (a C : Addr) : HO := .ext fun h => ∃ o, h.get? a = some o ∧ o.cls = .ref C
section
variable {X : Cx} {k : Nat} {f Dc : Addr} {fd : FuncData} {ps : List Str} {sp : Sp} {x dn n : Str} {i : Nat} {p cpos epos np hpos pos : Pos} {e : Expr} {es : List Expr} {t : TA} {ts : TS} {b0 : Stmt} {suite : List Stmt}
end
end L2
set_option Elab.async false
set_option linter.all false
set_option maxRecDepth 100000
set_option maxHeartbeats 4000000
namespace L2
open PySem PySem.Spec PySem.Calls PyProof.Rows PySem.W Builtin Builtin.ObjectAttr Builtin.Getset_descriptor
structure XCls (K : Frag) (C : Addr) : Prop where
  ex : ExcC K C
  ga : findIn K (.ref C) "__getattribute__" = some (some (.builtin "BaseException.__getattribute__"))
  gt : findIn K (.ref C) "__getattr__" = some none
  ca : findIn K (.ref C) "__class__" = some (some (.builtin "object.__class__"))
  sp : specialIn K (.builtin "object.__class__") "__get__" = some (some (.builtin "getset_descriptor.__get__"))
  tk : takesIn K (.builtin "object.__class__") = some true
  mo : mroIn K C (.type "object") = some true
  mb : mroIn K C (.type "BaseException") = some true
def ExcAt (a C : Addr) (h : Heap) : Prop := ∃ o, h.get? a = some o ∧ o.cls = .ref C
section
variable {prog : Program} {w : World} {A : Around} {E : Value → Shared → Prop} {K : Frag} {a C : Addr} {s : Shared}
theorem excAt_ty {M : Model} {h : Heap} (p : ExcAt a C h) : Looks M h (typeOf (.ref a)) (.ref C) := by
  obtain ⟨o, h1, h2⟩ := p
  exact h2 ▸ (Looks.ld h1).andThen .now
theorem exc_class_get {R : Result → Shared → Prop} {tp : Value} (X : K.In s.heap) (I : ExcAt a C s.heap) (hm : mroIn K C (.type "object") = some true)
    (h : R (.ok (.ret (.ref C))) s) : codeAny (model prog w) A (.call (.builtin "getset_descriptor.__get__") ⟨[.builtin "object.__class__", .ref a, tp], []⟩) R s := by
  obtain ⟨hh, g, dr, t, os⟩ := s
  have L0 := excAt_ty (M := model prog w) I
  have L1 := looks_mroIn (M := model prog w) X hm
  refine codeAny_call_builtin KF.slot_gs.plain KF.entry_gs (KF.slot_gs.check _ _ _ _ _ _ _ _ KF.type_class (KF.args_gs _ _ _) ?_)
  unfold Builtin.«getset_descriptor.__get__» descrGet
  rw [dga_obj]
  refine wpAny_bind (wpAny_pure ?_)
  unfold descrGetter descrCheckInstance descrNameAndClass isInstance
  simp only [KF.owner_class]
  repeat lk
  refine ⟨Code.quiet_builtin _ (by decide +kernel), codeAny_builtin KF.entry_class ?_⟩
  unfold Builtin.«object.__class__» shownTypeOf
  repeat lk
  exact h
theorem exc_check_ga {M : Model} {nameV : Value} {Q : Unit → Shared → Prop} (X : K.In s.heap) (I : ExcAt a C s.heap) (hm : mroIn K C (.type "BaseException") = some true) (hq : Q () s) : wpAny M A (checkBuiltinCall "BaseException.__getattribute__" ⟨[.ref a, nameV], []⟩) Q E s := by
  obtain ⟨hh, g, dr, t, os⟩ := s
  have hk : builtinKind "BaseException.__getattribute__" = some .slot := by decide +kernel
  have hsplit : splitId "BaseException.__getattribute__" = some ("BaseException", "__getattribute__") := by decide +kernel
  have ha := F.args_bexc_ga (.ref a) nameV
  have L0 := excAt_ty (M := M) I
  have L1 := looks_mroIn (M := M) X hm
  simp only [checkBuiltinCall, hk, hsplit]
  refine wpAny_bind ?_
  unfold isInstance
  refine wpAny_bind (L0.at (L1.at ?_))
  repeat (first | assumption | wp_step)
theorem exc_entry {tk : Tok} {Q : Fin → Shared → Prop} (X : K.In s.heap) (I : ExcAt a C s.heap) (c : XCls K C) (hq : Q (.done (.ret (.ref C))) s) : wpAny (model prog w) A (Builtin.«object.__getattribute__» ⟨[.ref a, .str "__class__" tk], []⟩) Q E s := by
  obtain ⟨hh, g, dr, t, os⟩ := s
  have L0 := excAt_ty (M := model prog w) I
  have L1 := looks_findIn (M := model prog w) X c.ca
  have f5 := F.typeOf_object_class
  have f6 := F.slot_gs_get.lookup
  have f7 := F.slot_gs_set.lookup
  have hT5 : (⟨hh, g, dr, t, os⟩ : Shared).TypeIs (.builtin "object.__class__") "getset_descriptor" := F.typeOf_object_class
  repeat (any_goals (first | assumption | with_reducible refine L0.at ?_ | with_reducible refine L1.at ?_ | wp_step))
  refine exc_class_get X I c.mo ?_
  repeat (any_goals (first | assumption | wp_step))
theorem exc_ca {Q : Option Value → Shared → Prop} (X : K.In s.heap) (I : ExcAt a C s.heap) (c : XCls K C) (hq : Q (some (.ref C)) { s with toks := s.toks + 1 }) : wpAny (model prog w) A (getAttr? (.ref a) "__class__") Q E s := by
  obtain ⟨hh, g, dr, t, os⟩ := s
  have L0 := excAt_ty (M := model prog w) I
  have L1 := looks_findIn (M := model prog w) X c.ga
  have L2' := looks_findIn (M := model prog w) X c.gt
  have f3 := PySem.F.excAttr_ValueError.ga.bind (.ref a)
  have hx2 : (Value.builtin "BaseException.__getattribute__" == Value.builtin "object.__getattribute__") = false := by decide +kernel
  have hx1 : (onTheHeap (Value.ref C) && Value.builtin "BaseException.__getattribute__" == Value.builtin "object.__getattribute__") = false := by rw [hx2]; rfl
  unfold getAttr? getAttrBy?
  repeat (any_goals (first | assumption | with_reducible refine L0.at ?_ | with_reducible refine L1.at ?_ | with_reducible refine L2'.at ?_ | wp_step))
  refine codeAny_call_builtin PySem.F.excAttr_ValueError.ga.plain F.entry_bexc_ga (exc_check_ga X I c.mb (exc_entry X I c ?_))
  exact handed_on rfl (wpAny_pure hq)
theorem kitx_exc (c : XCls K C) : KitX K (.ref a) (.ref C) (ExcAt a C) where
  ty := fun _ _ _ I => excAt_ty I
  it := fun _ h X _ => by
    obtain ⟨bm, N, nm, qn, bs, hdct, sn, sub, ab, col, dd, k0, k1, k2, k3, k5, mN, oC, _⟩ := exc_obj X c.ex
    intro A' Q' E' s' k q
    unfold isType loadHead
    exact wpAny_bind (wpAny_loadPart (k _ _ oC) (wpAny_pure q))
  ne := fun h tp dd its n sl X htp => by
    obtain ⟨bm, N, nm, qn, bs, hdct, sn, sub, ab, col, dd', k0, k1, k2, k3, k5, mN, oC, _⟩ := exc_obj X c.ex
    refine Bool.eq_false_iff.mpr fun q => ?_
    have e : C = tp := Value.ref.inj (beq_iff_eq.mp q)
    subst e
    have z := congrArg (fun o : Option Obj => o.map (·.cls)) (oC.symm.trans htp)
    simp [excClassObj] at z
  ca := fun X I k => exc_ca X I c k
end
section
variable {X : Cx}
theorem vals_refs : ∀ {ds : List Addr} {us : List Value}, Vals (ds.map V.ref) us → us = ds.map Value.ref
  | [], _, r => by cases r; rfl
  | d :: ds, _, r => by
    rw [List.map_cons] at r
    cases r with
    | cons r1 r2 =>
      cases (show _ = Value.ref d from r1)
      rw [vals_refs r2]
      rfl
theorem call_isx : CallR X (.builtin "isinstance") (fun xs H Q => ∃ (a C : Addr) (v : V) (b : Bool), xs = [.ref a, v] ∧ H a = some (excO a C) ∧ XCls X.K C ∧
    ((∃ D, v = .ref D ∧ kitOne X.K (.ref C) (.ref D) = some b) ∨ (∃ T, v = .ty T ∧ kitOne X.K (.ref C) (.type T) = some b) ∨ (∃ (p : Addr) (ds : List Addr), v = .ref p ∧ H p = some (.tup (ds.map V.ref)) ∧ kitAny X.K (.ref C) (ds.map Value.ref) = some b)) ∧ Q (.bl b) H) := by
  intro pins s σ H xs us Q I r h
  obtain ⟨a, C, v, b, rfl, ha, c, alt, q⟩ := h
  obtain ⟨u, u', rfl, ru, rv⟩ := vals2 r
  cases ru
  have hat : ExcAt a C s.heap := (I.hok a _ ha).1
  have fin : ∀ tk, EP X pins σ Q (.bool b) { s with toks := tk } := fun tk => ⟨.bl b, H, I.tok tk, rfl, q⟩
  rcases alt with ⟨D, rfl, e⟩ | ⟨T, rfl, e⟩ | ⟨p, ds, rfl, hp, e⟩
  · cases rv
    exact kia_one (kitx_exc c) I.kIn hat e (fun z => nomatch z) fin
  · cases rv
    exact kia_one (kitx_exc c) I.kIn hat e (fun z => nomatch z) fin
  · cases rv
    obtain ⟨its, r1, ⟨⟨cls, dd, data, sl⟩, ho, hc, n, hd⟩, _⟩ := I.tuple (.of hp)
    simp only at hc hd
    subst hc hd
    rw [vals_refs r1] at ho
    exact kia_tup (kitx_exc c) I.kIn hat ho e (fun z => nomatch z) fin
end
end L2
set_option Elab.async false
set_option linter.all false
set_option maxRecDepth 100000
set_option maxHeartbeats 4000000
namespace L2
open PySem PySem.Spec PyProof.Rows
section
variable {X : Cx} {pins : List (Addr × Obj)} {σ : St} {H : Hp} {s : Shared}
end
section
variable {X : Cx} {pins : List (Addr × Obj)} {σ : St} {H : Hp} {s : Shared} {te : TE} {e : Expr} {pos : Pos} {k : Nat}
end
end L2
set_option Elab.async false
set_option linter.all false
set_option maxRecDepth 100000
namespace L2
open PySem PySem.Spec PyProof.Rows
section
variable {X : Cx}
theorem qs_raise {x : Str} {C : Addr} {e : Expr} {es : List Expr} {t : TA} {np cpos pos : Pos} {EX : Hp → Prop} (hc : X.calm = true) (hg : Gl X x) (hm : X.mg x = some (.ref C)) (he : ExcC X.K C) (ha : QA X (e :: es) t)
    (hx : ∀ pins σ H s h' a vs, Inv X pins σ H s → Heap.MadeExcOf s.heap h' a (.ref C) vs → EX H → X.xe (.ref a) { s with heap := h' })
    (hd : (x == ("__debug__" : Str)) = false := by decide) (hst : starEach (e :: es) X.env = (false, eval e X.env) :: starEach es X.env := by rfl) (hpl : (backTo cpos (starEach es X.env)).any (·.1) = false := by rfl) :
    QS X (.Raise (some (.Call (.Name x np) (e :: es) [] cpos)) none pos) (tRaise EX t) := ⟨ps_raise hc hg hm he ha.h hx hd hst hpl⟩
variable {k : Nat} {f Dc : Addr} {fd : FuncData} {ps : List Str} {sp : Sp} {x dn n : Str} {i : Nat} {p cpos epos np hpos pos : Pos} {e : Expr} {es : List Expr} {t : TA} {ts : TS} {b0 : Stmt} {suite : List Stmt}
end
end L2
set_option Elab.async false
set_option linter.all false
set_option maxRecDepth 100000
set_option maxHeartbeats 4000000
namespace L2
open PySem PySem.Spec PyProof.Rows

section
variable {κ : Type} [DecidableEq κ]
def valV (kvs : List (κ × V)) (k : κ) : Option V := (kvs.find? fun kv => decide (kv.1 = k)).map (·.2)
def putK (kvs : List (κ × V)) (k : κ) (v : V) : List (κ × V) :=
  if (kvs.any fun kv => decide (kv.1 = k)) = true then kvs.map (fun kv => if kv.1 = k then (kv.1, v) else kv) else kvs ++ [(k, v)]
theorem valV_pos {p : κ × V} {r : List (κ × V)} {k : κ} (e : p.1 = k) : valV (p :: r) k = some p.2 := by simp [valV, List.find?_cons, e]
theorem valV_neg {p : κ × V} {r : List (κ × V)} {k : κ} (e : ¬ p.1 = k) : valV (p :: r) k = valV r k := by simp [valV, List.find?_cons, e]
theorem valV_any (k : κ) : ∀ kvs : List (κ × V), (kvs.any fun kv => decide (kv.1 = k)) = (valV kvs k).isSome
  | [] => rfl
  | p :: r => by
    rw [List.any_cons]
    by_cases e : p.1 = k
    · simp only [valV_pos e, decide_eq_true e, Bool.true_or, Option.isSome_some]
    · rw [valV_neg e, decide_eq_false e, Bool.false_or]; exact valV_any k r
theorem valV_map (k j : κ) (y : V) : ∀ kvs : List (κ × V), valV (kvs.map fun kv => if kv.1 = k then (kv.1, y) else kv) j = (valV kvs j).map fun x => if j = k then y else x
  | [] => rfl
  | p :: r => by
    have ih := valV_map k j y r
    rw [List.map_cons]
    by_cases h : p.1 = k
    · rw [if_pos h]
      by_cases e : p.1 = j
      · rw [valV_pos (p := (p.1, y)) e, valV_pos e, Option.map_some, if_pos (e.symm.trans h)]
      · rw [valV_neg (p := (p.1, y)) e, valV_neg e, ih]
    · rw [if_neg h]
      by_cases e : p.1 = j
      · rw [valV_pos (p := p) e, valV_pos e, Option.map_some, if_neg (fun z => h (e.trans z))]
      · rw [valV_neg (p := p) e, valV_neg e, ih]
theorem valV_snoc (k j : κ) (y : V) : ∀ kvs : List (κ × V), valV kvs k = none → valV (kvs ++ [(k, y)]) j = if j = k then some y else valV kvs j
  | [], _ => by
    by_cases e : k = j
    · rw [if_pos e.symm]; exact valV_pos (p := (k, y)) e
    · rw [if_neg (fun z => e z.symm)]; exact valV_neg (p := (k, y)) e
  | p :: r, hn => by
    rw [List.cons_append]
    have hk : ¬ p.1 = k := fun z => by rw [valV_pos z] at hn; cases hn
    rw [valV_neg hk] at hn
    have ih := valV_snoc k j y r hn
    by_cases e : p.1 = j
    · rw [valV_pos e, valV_pos e, if_neg (fun z => hk (e.trans z))]
    · rw [valV_neg e, valV_neg e, ih]
theorem valV_put (kvs : List (κ × V)) (k j : κ) (y : V) : valV (putK kvs k y) j = if j = k then some y else valV kvs j := by
  unfold putK
  by_cases a : (kvs.any fun kv => decide (kv.1 = k)) = true
  · rw [if_pos a, valV_map]
    rw [valV_any] at a
    by_cases e : j = k
    · obtain ⟨x, hx⟩ := Option.isSome_iff_exists.mp a
      rw [if_pos e, e, hx, Option.map_some, if_pos rfl]
    · rw [if_neg e]
      cases valV kvs j with
      | none => rfl
      | some x => rw [Option.map_some, if_neg e]
  · rw [if_neg a]
    refine valV_snoc k j y kvs ?_
    rw [valV_any] at a
    cases q : valV kvs k with
    | none => rfl
    | some x => rw [q] at a; exact (a rfl).elim
theorem length_putK (kvs : List (κ × V)) (k : κ) (v : V) : (putK kvs k v).length ≤ kvs.length + 1 := by
  unfold putK
  split
  · rw [List.length_map]; omega
  · rw [List.length_append, List.length_cons, List.length_nil]; omega
theorem RelO.isSome_eq {o : Option V} {u : Option Value} (r : RelO o u) : o.isSome = u.isSome := by
  cases o with
  | none => cases u with
    | none => rfl
    | some _ => exact (show False from r).elim
  | some _ => cases u with
    | none => exact (show False from r).elim
    | some _ => rfl
theorem KV.val {kvs : List (κ × V)} {vs : List (κ × Value)} (r : KV kvs vs) (k : κ) : RelO (valV kvs k) (valueAt vs k) := by
  unfold KV at r
  induction r with
  | nil => exact True.intro
  | @cons p q ps qs h t ih =>
    obtain ⟨h1, h2⟩ := h
    by_cases e : p.1 = k
    · have e' : q.1 = k := h1.symm.trans e
      have b : valueAt (q :: qs) k = some q.2 := by simp [valueAt, List.find?_cons, e']
      rw [valV_pos e, b]; exact h2
    · have e' : ¬ q.1 = k := fun z => e (h1.trans z)
      have b : valueAt (q :: qs) k = valueAt qs k := by simp [valueAt, List.find?_cons, e']
      rw [valV_neg e, b]; exact ih
theorem KV.any {kvs : List (κ × V)} {vs : List (κ × Value)} (r : KV kvs vs) (k : κ) : (kvs.any fun kv => decide (kv.1 = k)) = vs.any fun kv => decide (kv.1 = k) := by
  unfold KV at r
  induction r with
  | nil => rfl
  | cons h t ih => rw [List.any_cons, List.any_cons, ih, h.1]
theorem KV.repl {kvs : List (κ × V)} {vs : List (κ × Value)} (r : KV kvs vs) (k : κ) {y : V} {u : Value} (ry : RelV y u) :
    KV (kvs.map fun kv => if kv.1 = k then (kv.1, y) else kv) (vs.map fun kv => if kv.1 = k then (kv.1, u) else kv) := by
  unfold KV at r ⊢
  induction r with
  | nil => exact .nil
  | @cons p q ps qs h t ih =>
    rw [List.map_cons, List.map_cons]
    refine .cons ?_ ih
    obtain ⟨h1, h2⟩ := h
    by_cases e : p.1 = k
    · rw [if_pos e, if_pos (h1.symm.trans e)]; exact ⟨h1, ry⟩
    · rw [if_neg e, if_neg (fun z => e (h1.trans z))]; exact ⟨h1, h2⟩
theorem KV.put {kvs : List (κ × V)} {vs : List (κ × Value)} (r : KV kvs vs) (k : κ) {y : V} {u : Value} (ry : RelV y u) : KV (putK kvs k y) (stored vs k u) := by
  unfold putK stored
  rw [r.any k]
  by_cases e : (vs.any fun kv => decide (kv.1 = k)) = true
  · rw [if_pos e, if_pos e]; exact r.repl k ry
  · rw [if_neg e, if_neg e]; exact Paired.snoc r ⟨rfl, ry⟩
theorem KV.length {kvs : List (κ × V)} {vs : List (κ × Value)} (r : KV kvs vs) : kvs.length = vs.length := Paired.length r
end


theorem kV_is {P : Program} {w : World} {k : Key} {u : Value} (r : RelV (kV k) u) : (mixKind P w).is k u = true := by
  cases k with
  | inl i => obtain ⟨t, e⟩ := (show ∃ t, u = Value.int i t from r); subst e; exact mixKind_int P w i t
  | inr x => obtain ⟨t, e⟩ := (show ∃ t, u = Value.str x t from r); subst e; exact mixKind_str P w x t
theorem items_are {P : Program} {w : World} : ∀ {ks : List Key} {us : List Value}, Vals (ks.map kV) us → ItemsAre (mixKind P w) ks us
  | [], _, r => by rw [List.map_nil] at r; cases r; exact .nil
  | k :: ks, _, r => by
    rw [List.map_cons] at r
    cases r with
    | cons h t => exact .cons (kV_is h) (items_are t)

abbrev KT (H : Hp) : List (List Key × V) → List (List Key × Addr × Value) → Prop := Paired fun p q => p.1 = q.1 ∧ H q.2.1 = some (.tup (p.1.map kV)) ∧ RelV p.2 q.2.2
theorem KT.val {H : Hp} {kvs : List (List Key × V)} {xs : List (List Key × Addr × Value)} (r : KT H kvs xs) (k : List Key) : RelO (valV kvs k) ((atKey xs k).map (·.2)) := by
  induction r with
  | nil => exact True.intro
  | @cons p q ps qs h t ih =>
    obtain ⟨h1, _, h2⟩ := h
    by_cases e : p.1 = k
    · have e' : q.1 = k := h1.symm.trans e
      have b : atKey (q :: qs) k = some q.2 := by simp [atKey, List.find?_cons, e']
      rw [valV_pos e, b]; exact h2
    · have e' : ¬ q.1 = k := fun z => e (h1.trans z)
      have b : atKey (q :: qs) k = atKey qs k := by simp [atKey, List.find?_cons, e']
      rw [valV_neg e, b]; exact ih
theorem KT.repl {H : Hp} {kvs : List (List Key × V)} {xs : List (List Key × Addr × Value)} (r : KT H kvs xs) (k : List Key) {y : V} {u : Value} (ry : RelV y u) :
    KT H (kvs.map fun kv => if kv.1 = k then (kv.1, y) else kv) (xs.map (putAt k u)) := by
  induction r with
  | nil => exact .nil
  | @cons p q ps qs h t ih =>
    rw [List.map_cons, List.map_cons]
    refine .cons ?_ ih
    obtain ⟨h1, h2, h3⟩ := h
    unfold putAt
    by_cases e : p.1 = k
    · rw [if_pos e, if_pos (h1.symm.trans e)]; exact ⟨h1, h2, ry⟩
    · rw [if_neg e, if_neg (fun z => e (h1.trans z))]; exact ⟨h1, h2, h3⟩
theorem KT.put {H : Hp} {kvs : List (List Key × V)} {xs : List (List Key × Addr × Value)} (r : KT H kvs xs) (k : List Key) {b : Addr} {y : V} {u : Value} (hb : H b = some (.tup (k.map kV))) (ry : RelV y u) :
    KT H (putK kvs k y) (storedH xs k b u) := by
  have e : (kvs.any fun kv => decide (kv.1 = k)) = (atKey xs k).isSome := by
    rw [valV_any, (r.val k).isSome_eq, Option.isSome_map]
  unfold putK storedH
  rw [e]
  by_cases q : (atKey xs k).isSome = true
  · rw [if_pos q, if_pos q]; exact r.repl k ry
  · rw [if_neg q, if_neg q]; exact Paired.snoc r ⟨rfl, hb, ry⟩
theorem KT.keeps {H H' : Hp} {kvs : List (List Key × V)} {xs : List (List Key × Addr × Value)} (r : KT H kvs xs) (ht : ∀ b ys, H b = some (.tup ys) → H' b = some (.tup ys)) : KT H' kvs xs :=
  Paired.mapP r fun _ _ z => ⟨z.1, ht _ _ z.2.1, z.2.2⟩

section
variable {P : Program} {w : World} {H : Hp} {h : Heap} {a : Addr}
theorem rd_of {u : HO} (ok : HOk P w H h) (e : Rd H a u) : ObjOk P w H h a u := e.ok ok
theorem dk_rd {kvs : List (Key × V)} (ok : HOk P w H h) (e : Rd H a (.dK kvs)) : kvs.length ≤ sizeLine ∧ (a == sysModules) = false ∧ ∃ vs, KV kvs vs ∧ h.DictOf (mixKind P w) a vs :=
  show ObjOk P w H h a (.dK kvs) from rd_of ok e
theorem dk_of {kvs : List (Key × V)} (ok : HOk P w H h) (e : H a = some (.dK kvs)) : kvs.length ≤ sizeLine ∧ (a == sysModules) = false ∧ ∃ vs, KV kvs vs ∧ h.DictOf (mixKind P w) a vs := dk_rd ok (.inl e)
theorem key_of {ks : List Key} (ok : HOk P w H h) (e : H a = some (.tup (ks.map kV))) : (tupleKind (mixKind P w)).is h ks a := by
  obtain ⟨_, its, r, o, h1, h2, n, h3⟩ := (show ObjOk P w H h a (.tup (ks.map kV)) from ok a _ e)
  exact ⟨o, its.toArray, n, h1, h2, h3, by simpa using items_are r⟩
theorem dt_rd {kvs : List (List Key × V)} (ok : HOk P w H h) (e : Rd H a (.dT kvs)) : kvs.length ≤ sizeLine ∧ (a == sysModules) = false ∧
    ∃ xs, KT H kvs xs ∧ h.DictOfH (tupleKind (mixKind P w)) a xs := by
  obtain ⟨z, y, xs, r, o, es, ep, h1, h2, h3, h4, h5⟩ := (show ObjOk P w H h a (.dT kvs) from rd_of ok e)
  refine ⟨z, y, xs, r, o, es, ep, h1, h2, h3, h4, fun x hx => ?_, h5⟩
  have all : ∀ {l : List (List Key × V)} {m : List (List Key × Addr × Value)}, KT H l m → ∀ x ∈ m, (tupleKind (mixKind P w)).is h x.1 x.2.1 := by
    intro l m q
    induction q with
    | nil => intro x hx; exact nomatch hx
    | @cons p q ps qs hq t ih =>
      intro x hx
      rcases List.mem_cons.mp hx with e | hx
      · subst e
        exact key_of ok (by rw [← hq.1]; exact hq.2.1)
      · exact ih x hx
  exact all r x hx
theorem dt_of {kvs : List (List Key × V)} (ok : HOk P w H h) (e : H a = some (.dT kvs)) : kvs.length ≤ sizeLine ∧ (a == sysModules) = false ∧
    ∃ xs, KT H kvs xs ∧ h.DictOfH (tupleKind (mixKind P w)) a xs := dt_rd ok (.inl e)
end

def DGet (H : Hp) (a : Addr) (y : V) (r : Option V) : Prop :=
  (∃ kvs k, Rd H a (.dK kvs) ∧ y = kV k ∧ r = valV kvs k) ∨ ∃ kvs k b, Rd H a (.dT kvs) ∧ y = .ref b ∧ H b = some (.tup (k.map kV)) ∧ r = valV kvs k
def DPut (H : Hp) (a : Addr) (y v : V) (H' : Hp) : Prop :=
  (∃ kvs k, H a = some (.dK kvs) ∧ y = kV k ∧ kvs.length < sizeLine ∧ H' = upd H a (.dK (putK kvs k v))) ∨
  ∃ kvs k b, H a = some (.dT kvs) ∧ y = .ref b ∧ H b = some (.tup (k.map kV)) ∧ kvs.length < sizeLine ∧ H' = upd H a (.dT (putK kvs k v))
theorem DGet.k {H : Hp} {a : Addr} {kvs : List (Key × V)} {k : Key} (e : H a = some (.dK kvs)) : DGet H a (kV k) (valV kvs k) := .inl ⟨kvs, k, .inl e, rfl, rfl⟩
theorem DPut.k {H : Hp} {a : Addr} {kvs : List (Key × V)} {k : Key} {v : V} (e : H a = some (.dK kvs)) (hl : kvs.length < sizeLine) : DPut H a (kV k) v (upd H a (.dK (putK kvs k v))) := .inl ⟨kvs, k, e, rfl, hl, rfl⟩
section
variable {X : Cx} {pins : List (Addr × Obj)} {σ : St} {H : Hp} {s : Shared} {a : Addr} {y v : V} {u r : Value} {o : Option V} {A : Around} {E : Value → Shared → Prop}

theorem Inv.big (I : Inv X pins σ H s) : sysModules < s.heap.objs.size := by
  have h : mainGlobals < s.heap.objs.size := (I.mod.glob.keeps I.bk).lt
  exact Nat.lt_trans (by decide) h

theorem d_getItem {Q : Value → Shared → Prop} (hu : A.units + 1 < cLine) (I : Inv X pins σ H s) (g : DGet H a y (some v)) (ry : RelV y u) (h : ∀ w' s', Inv X pins σ H s' → RelV v w' → Q w' s') :
    wpAny (model X.prog X.w) A (getItem (.ref a) u) Q E s := by
  rcases g with ⟨kvs, k, e, ey, l⟩ | ⟨kvs, k, b, e, ey, eb, l⟩
  · subst ey
    obtain ⟨z, hd, vs, rel, dd⟩ := dk_rd I.hok e
    obtain ⟨w', hw, rw'⟩ := RelO.some_of (v := v) (o := valueAt vs k) (by rw [l]; exact rel.val k)
    exact wpAny_getItem_of (kV_is ry) dd.mapOf hw (h w' _ (I.tok _) rw')
  · subst ey
    cases (show u = Value.ref b from ry)
    obtain ⟨z, hd, xs, rel, dd⟩ := dt_rd I.hok e
    obtain ⟨w', hw, rw'⟩ := RelO.some_of (v := v) (o := (atKey xs k).map (·.2)) (by rw [l]; exact rel.val k)
    obtain ⟨p, hp, hp2⟩ := Option.map_eq_some_iff.mp hw
    refine wpAny_getItem_heap (tupleKind_room_in1 hu) (key_of I.hok eb) dd hp ?_
    rw [hp2]
    exact h w' _ (I.tok _) rw'
theorem d_write {h' : Heap} {t' : Nat} {ob : HO} (I : Inv X pins σ H s) (mu : Mut (H a)) (hs : Heap.SameBut a s.heap h') (he : ∃ q, h'.get? a = some q) (new : ObjOk X.prog X.w (upd H a ob) h' a ob) :
    Inv X pins σ (upd H a ob) { s with heap := h', toks := t' } :=
  I.write (x := a) (e := a) mu (.inl rfl) (fun b q hb z => (hs.2 b hb).trans z) he new
theorem dk_new {P : Program} {w : World} {H' : Hp} {h' : Heap} {kvs : List (Key × V)} {vs : List (Key × Value)} (z : kvs.length ≤ sizeLine) (hd : (a == sysModules) = false) (rel : KV kvs vs) (dd : h'.DictOf (mixKind P w) a vs) :
    ObjOk P w H' h' a (.dK kvs) := ⟨z, hd, vs, rel, dd⟩
theorem d_setItem {H' : Hp} {Q : Unit → Shared → Prop} (hu : A.units + 1 < cLine) (I : Inv X pins σ H s) (g : DPut H a y v H') (ry : RelV y u) (rv : RelV v r) (h : ∀ s', Inv X pins σ H' s' → Q () s') :
    wpAny (model X.prog X.w) A (setItem (.ref a) u r) Q E s := by
  rcases g with ⟨kvs, k, e, ey, l, eH⟩ | ⟨kvs, k, b, e, ey, eb, l, eH⟩
  · subst ey eH
    obtain ⟨z, hd, vs, rel, dd⟩ := dk_of I.hok e
    have hz : vs.length ≤ sizeLine := by rw [← rel.length]; exact z
    have hl : (putK kvs k v).length ≤ sizeLine := by have := length_putK kvs k v; omega
    refine wpAny_setItem_pairs (hsz := hz) (kV_is ry) dd fun h' dd' hs => h _ ?_
    have he : ∃ q, h'.get? a = some q := let ⟨q, _, _, hq, _⟩ := dd'; ⟨q, hq⟩
    exact d_write I (by rw [e]; exact True.intro) hs he (dk_new hl hd (rel.put k rv) dd')
  · subst ey eH
    cases (show u = Value.ref b from ry)
    obtain ⟨z, hd, xs, rel, dd⟩ := dt_of I.hok e
    have hz : xs.length ≤ sizeLine := by rw [← Paired.length rel]; exact z
    have hl : (putK kvs k v).length ≤ sizeLine := by have := length_putK kvs k v; omega
    refine wpAny_setItem_heap (hsz := hz) (tupleKind_room_in1 hu) (key_of I.hok eb) dd fun h' dd' hs => h _ ?_
    obtain ⟨q, es, ep, hq, h2, h3, h4, _, h5⟩ := dd'
    refine d_write I (by rw [e]; exact True.intro) hs ⟨q, hq⟩ ⟨hl, hd, _, (rel.put k eb rv).keeps fun c ys ec => ?_, q, es, ep, hq, h2, h3, h4, h5⟩
    rw [upd_ne (ne_of ec e (fun z => nomatch z))]
    exact ec
end

section
variable {X : Cx} {pins : List (Addr × Obj)} {σ : St} {H : Hp} {s : Shared} {a : Addr} {kvs : List (Key × V)} {k : Key} {u : Value} {A : Around} {E : Value → Shared → Prop}
end


def NoSl (i : Expr) : Prop := ∀ ov iv, subscripted i false ov iv = operate [ov, iv] (getItem ov iv)
theorem subD_of {prog : Program} {w : World} {A : Around} {E : Value → Shared → Prop} {s : Shared} {env : Env} {value slice : Expr} {pos : Pos} {T id : String} {Q : Value → Shared → Prop}
    (hl : typeLookup (.type T) "__getitem__" = pure (some (.builtin id))) (hs : NoSl slice)
    (h : wpAny (model prog w) A (eval value env) (fun o s₁ => wpAny (model prog w) A (eval slice env) (fun i s₂ => s₂.TypeIs o T ∧ wpAny (model prog w) A (getItem o i) Q E s₂) E s₁) E s) :
    wpAny (model prog w) A (eval (.Subscript value slice pos) env) Q E s := by
  refine Subscript_ (wpAny_mono h (fun o s₁ h₁ => wpAny_mono h₁ (fun i s₂ h₂ => ?_) fun _ _ x => x) fun _ _ x => x)
  obtain ⟨hT, h₂⟩ := h₂
  unfold subscriptTail
  refine wpAny_bind ?_
  rw [getitemInPython_of_ne hT.not_modules]
  refine wpAny_bind (wpAny_specialOf hT hl ?_)
  have fin : wpAny (model prog w) A (subscripted slice false o i) (fun r s₃ => wpAny (model prog w) A (letTemporaryGo value o r >>= fun _ => pure r) Q E s₃) E s₂ := by
    rw [hs o i]
    exact wpAny_operating (wpAny_mono h₂ (fun r s₃ h₃ => wpAny_bind (wpAny_letTemporaryGo (wpAny_pure h₃))) fun _ _ x => x)
  first
    | exact wpAny_pure (wpAny_bind fin)
    | exact wpAny_bind (wpAny_pure (wpAny_bind fin))
    | exact wpAny_bind fin

theorem dict_typeIs {X : Cx} {pins : List (Addr × Obj)} {σ : St} {H : Hp} {s : Shared} {a : Addr} {y : V} {o : Option V} (I : Inv X pins σ H s) (g : DGet H a y o) : s.TypeIs (.ref a) "dict" := by
  rcases g with ⟨kvs, k, e, _, _⟩ | ⟨kvs, k, b, e, _, _, _⟩
  · obtain ⟨_, _, vs, _, dd⟩ := dk_rd I.hok e
    exact dd.typeIs
  · obtain ⟨_, _, xs, _, dd⟩ := dt_rd I.hok e
    exact dd.typeIs
def tDGet (td ty : TE) : TE := fun σ H Q => td σ H fun x H1 => ty σ H1 fun y H2 => ∃ a v, x = .ref a ∧ DGet H2 a y (some v) ∧ Q v H2
def sDPut (td ty tv : TE) : TS := fun D σ H => tv σ H fun v H1 => td σ H1 fun x H2 => ty σ H2 fun y H3 => ∃ a H4, x = .ref a ∧ DPut H3 a y v H4 ∧ D.nx σ H4
section
variable {X : Cx} {o i e value : Expr} {pos pos' tpos : Pos} {td ty tv : TE}
theorem pe_dget (hu : X.A.units + 1 < cLine) (ho : PE X o td) (hi : PE X i ty) (hs : NoSl i) : PE X (.Subscript o i pos) (tDGet td ty) := by
  intro pins s σ H Q I h
  refine subD_of PySem.F.slot_dict_getitem.lookup hs (thn (ho pins s σ H _ I h) fun u s1 ⟨x, H1, I1, rx, q1⟩ => thn (hi pins s1 σ H1 _ I1 q1) fun iv s2 ⟨y, H2, I2, ry, a, v, ex, g, q2⟩ => ?_)
  subst ex
  obtain rfl : u = Value.ref a := rx
  exact ⟨dict_typeIs I2 g, d_getItem hu I2 g ry fun w' s3 I3 rw' => ⟨v, H2, I3, rw', q2⟩⟩
theorem ps_dput (hu : X.A.units + 1 < cLine) (ho : PE X o td) (hi : PE X i ty) (hv : PE X value tv) (hs : swapsWith value (some (.Subscript o i pos')) pos.line X.env = pure false) :
    PS X (.Assign [.Subscript o i pos'] value pos) (sDPut td ty tv) := by
  intro pins s σ H D I h
  refine wpAny_Assign_Subscript (thn (hv pins s σ H _ I h) fun r s1 ⟨v, H1, I1, rv, q1⟩ => thn (ho pins s1 σ H1 _ I1 q1) fun u s2 ⟨x, H2, I2, rx, q2⟩ => thn (hi pins s2 σ H2 _ I2 q2) fun iv s3 ⟨y, H3, I3, ry, a, H4, ex, g, q3⟩ => ?_) hs
  subst ex
  obtain rfl : u = Value.ref a := rx
  exact d_setItem hu I3 g ry rv fun s4 I4 => ⟨σ, H4, I4, q3⟩
end


theorem dk_empty {P : Program} {w : World} {H : Hp} (h : Heap) (hb : sysModules < h.objs.size) : ObjOk P w H (h.push { cls := .type "dict", data := .dict #[] }) h.objs.size (.dK []) :=
  ⟨Nat.zero_le _, beq_eq_false_iff_ne.mpr (Ne.symm (Nat.ne_of_lt hb)), [], .nil, Heap.DictOf.new h⟩
def tDNewK : TE := fun _ H Q => ∀ p, H p = none → Q (.ref p) (upd H p (.dK []))
section
variable {X : Cx} {pos : Pos}
theorem pe_dnewK : PE X (.Dict [] [] pos) tDNewK := fun pins s σ H Q I h =>
  wpAny_Dict_empty ⟨.ref s.heap.objs.size, _, I.laid (a := s.heap.objs.size) (o := .dK []) (t' := s.toks) (fun _ _ q => Heap.get?_push_of_some _ q) (Nat.le_refl _) (dk_empty s.heap I.big), rfl, h _ (I.hok.fresh (Nat.le_refl _))⟩
end

section
variable {X : Cx} {pins : List (Addr × Obj)} {σ : St} {H : Hp} {s : Shared} {a : Addr} {y d : V} {u r : Value} {o : Option V} {A : Around} {E : Value → Shared → Prop}
end

section
variable {X : Cx} {o e f : Expr} {apos cpos : Pos} {td ty tx : TE}
end

section
variable {X : Cx} {pins : List (Addr × Obj)} {σ : St} {H : Hp} {s : Shared} {a : Addr} {kvs : List (Key × V)} {A : Around} {E : Value → Shared → Prop}
end


section
variable {X : Cx} {pins : List (Addr × Obj)} {σ : St} {H : Hp} {s : Shared} {a : Addr} {y : V} {u : Value} {A : Around} {E : Value → Shared → Prop}
end
end L2

namespace L2
open PySem PySem.Spec PyProof.Rows
section
variable {X : Cx}
end
section
variable {κ : Type} [DecidableEq κ]
end
end L2
set_option Elab.async false
set_option linter.all false
set_option maxRecDepth 100000
set_option maxHeartbeats 4000000
namespace L2
open PySem PySem.Spec PyProof.Rows
section
variable {X : Cx}
end
end L2
set_option Elab.async false
set_option linter.all false
set_option maxRecDepth 100000
set_option maxHeartbeats 4000000
namespace L2
open PySem PySem.Spec PyProof.Rows
section
variable {X : Cx} {tg : Expr}
end
end L2
set_option Elab.async false
set_option linter.all false
set_option maxRecDepth 100000
set_option maxHeartbeats 4000000
namespace L2
open PySem PySem.Spec PySem.Calls PyProof.Rows Builtin Builtin.Str
section
variable {X : Cx}
end
end L2
set_option Elab.async false
set_option linter.all false
set_option maxRecDepth 100000
set_option maxHeartbeats 4000000
namespace L2
open PySem PySem.Spec PySem.Calls PyProof.Rows Builtin Builtin.Tuple
section
variable {X : Cx}
end
end L2
set_option Elab.async false
set_option linter.all false
set_option maxRecDepth 100000
set_option maxHeartbeats 4000000
namespace L2
open PySem PySem.Spec PyProof.Rows
section
variable {X : Cx} {pins : List (Addr × Obj)} {σ : St} {H : Hp} {s : Shared} {h' : Heap}
theorem Inv.turnedT {t' : Nat} {wr : List Addr} {T : Addr} {vs : List V} {its : List Value} (I : Inv X pins σ H s) (k : ∀ b o, b ∉ wr → s.heap.get? b = some o → h'.get? b = some o) (hf : ∀ b ∈ wr, FpOk X pins H b)
    (hT : s.heap.objs.size ≤ T) (hz : vs.length ≤ sizeLine) (hv : Vals vs its) (ht : IsTup h' T its.toArray) : Inv X pins σ (upd H T (.tup vs)) { s with heap := h', toks := t' } := by
  have hn : H T = none := I.hok.fresh hT
  have nw : ∀ b u, H b = some u → b ∉ wr := fun b u e z => by
    have := (hf b z).1
    rw [this] at e
    cases e
  have nT : ∀ b o, s.heap.get? b = some o → b ≠ T := fun b o e z => by
    subst z
    exact absurd (Nat.lt_of_lt_of_le (Heap.lt_size e) hT) (Nat.lt_irrefl _)
  refine I.step (H' := upd H T (.tup vs)) (g' := s.gens) (d' := s.drawn) (ch := wr) (fun b hb => ?_) (fun b o _ _ hc e _ => k b o hc e) (fun b o _ _ hc e _ => ⟨o.slots, k b o hc e⟩) (fun b o _ e n => by rw [upd_ne (nT b o e)]; exact n)
    (fun b o hc e => ⟨o, k b o hc e⟩) (fun b xs e => by rw [upd_ne (ne_of_none e hn)]; exact e) (fun b o u e => by rw [upd_ne (ne_of_none e hn)]; exact e) (fun b ps e => ⟨#[], by rw [upd_ne (ne_of_none e hn), e]; simp⟩) (fun m hm => ?_) (fun b u e => ?_) I.bare
  · obtain ⟨f0, f1, f2, f3, f4, f5⟩ := hf b hb
    exact ⟨f3, f1, f4, f5⟩
  · obtain ⟨o, es, ep, ho, r⟩ := hm
    exact ⟨o, es, ep, k _ o (fun z => (hf _ z).2.1 rfl) ho, r⟩
  · by_cases hb : b = T
    · subst hb
      rw [upd_same] at e
      cases e
      exact ⟨hz, its, hv, ht⟩
    · rw [upd_ne hb] at e
      refine (I.hok b u e).stay (fun c v hc q => k c v ?_ q) (fun c q => by rw [upd_ne (ne_of_none q hn)]; exact q) fun c xs q => by rw [upd_ne (ne_of_none q hn)]; exact q
      rcases hc with z | z
      · rw [z]; exact nw b u e
      · exact nw c _ z
theorem Inv.turnedL {t' : Nat} {wr : List Addr} (I : Inv X pins σ H s) (k : ∀ b o, b ∉ wr → s.heap.get? b = some o → h'.get? b = some o) (hf : ∀ b ∈ wr, FpOk X pins H b) : Inv X pins σ H { s with heap := h', toks := t' } := by
  have nw : ∀ b u, H b = some u → b ∉ wr := fun b u e z => by
    have := (hf b z).1
    rw [this] at e
    cases e
  refine I.step (g' := s.gens) (d' := s.drawn) (ch := wr) (fun b hb => ?_) (fun b o _ _ hc e _ => k b o hc e) (fun b o _ _ hc e _ => ⟨o.slots, k b o hc e⟩) (fun _ _ _ _ n => n)
    (fun b o hc e => ⟨o, k b o hc e⟩) (fun _ _ e => e) (fun _ _ _ e => e) (fun b ps e => ⟨#[], by rw [e]; simp⟩) (fun m hm => ?_) (fun b u e => ?_) I.bare
  · obtain ⟨f0, f1, f2, f3, f4, f5⟩ := hf b hb
    exact ⟨f3, f1, f4, f5⟩
  · obtain ⟨o, es, ep, ho, r⟩ := hm
    exact ⟨o, es, ep, k _ o (fun z => (hf _ z).2.1 rfl) ho, r⟩
  · refine (I.hok b u e).stay (fun c v hc q => k c v ?_ q) (fun _ q => q) fun _ _ q => q
    rcases hc with z | z
    · rw [z]; exact nw b u e
    · exact nw c _ z
end
def ItW (n : Nat) (G : Hp → Prop) (R : Nat → List V → Prop) : It :=
  ⟨fun i H => i < n ∧ G H, fun i H x H' => ∃ T vs, x = .ref T ∧ H T = none ∧ R i vs ∧ H' = upd H T (.tup vs), fun i H => i = n ∧ G H⟩
theorem for_wt {n : Nat} {G : Hp → Prop} {R : Nat → List V → Prop} {g : TG} {tb : TS} {D : Ends} {σ : St} {H : Hp} (Pv : Nat → St → Hp → Prop) (h0 : Pv 0 σ H) (hg : ∀ i σ H, i ≤ n → Pv i σ H → G H)
    (hs : ∀ i T vs σ H, i < n → R i vs → Pv i σ H → H T = none → g (.ref T) σ (upd H T (.tup vs)) fun σ2 H2 => tb { D with nx := Pv (i + 1), ct := Pv (i + 1), bk := D.nx } σ2 H2) (hd : ∀ σ H, Pv n σ H → D.nx σ H) :
    ∃ W : Nat → Nat → St → Hp → Prop, (∃ m, W 0 m σ H) ∧ ∀ i m σ H, W i m σ H →
      ((ItW n G R).stop i H ∧ D.nx σ H) ∨ ((ItW n G R).go i H ∧ ∃ N : St → Hp → Prop, (∀ σ' H', N σ' H' → ∃ m', m' < m ∧ W (i + 1) m' σ' H') ∧ ∀ x H', (ItW n G R).yld i H x H' → g x σ H' fun σ2 H2 => tb { D with nx := N, ct := N, bk := D.nx } σ2 H2) := by
  refine ⟨fun i m σ H => m = n - i ∧ i ≤ n ∧ Pv i σ H, ⟨n, by simp, Nat.zero_le _, h0⟩, ?_⟩
  rintro i m σ H ⟨rfl, hi, p⟩
  have q := hg i σ H hi p
  by_cases hlt : i < n
  · refine .inr ⟨⟨hlt, q⟩, Pv (i + 1), fun σ' H' p' => ⟨n - (i + 1), by omega, rfl, hlt, p'⟩, fun x H' y => ?_⟩
    obtain ⟨T, vs, rfl, hT, r, rfl⟩ := y
    exact hs i T vs σ H hlt r p hT
  · have e : i = n := by omega
    subst e
    exact .inl ⟨⟨rfl, q⟩, hd σ H p⟩
section
variable {X : Cx} {elts : List Expr} {k : Nat} {tpos : Pos}
end
end L2
set_option Elab.async false
set_option linter.all false
set_option maxRecDepth 100000
set_option maxHeartbeats 4000000
namespace L2
open PySem PySem.Spec PyProof.Rows
theorem ps_setC {X : Cx} {elt iter : Expr} {ifs : List Expr} {sc : Scope} {pos px py spos : Pos} {t y : Str} {ys : List Str} {js : List Nat} {wi : TI} {tc : TT} {te : TE} {g : TG} (hc : X.calm = true) (hck : compChk X.N X.env.scope sc t ys js = true)
    (hi : PI X (.Name t px) iter wi) (hf : ∀ cl C s H fp, PIf (X.comp sc cl C (t :: ys) s H fp) ifs tc) (he : ∀ cl C s H fp, PE (X.comp sc cl C (t :: ys) s H fp) elt te) (hg : PG X (.Name y py) g)
    (hsw : swapsWith (.ListComp elt [⟨.Name t px, iter, ifs, 0⟩] sc pos) (some (.Name y py)) spos.line X.env = pure true) (hs : ∀ x, foldedSetIterable iter X.env x = pure x := by intro _; rfl) :
    PS X (.Assign [.Name y py] (.ListComp elt [⟨.Name t px, iter, ifs, 0⟩] sc pos) spos) (tAsg (tComp wi js tc te) g) := by
  have ck := compOk_of hck
  intro pins s σ H D0 I h
  have hfr : ∀ x, (x, NameKind.free) ∈ sc.names → ∃ c, X.env.cells.lookup x = some c := fun x hx => I.ok.has x (.inl (ck.fre _ hx rfl))
  obtain ⟨cl, hcl, cl1, cl2⟩ := clos_ok hfr
  rw [exec_Assign_Name_used _ _ _ _ hsw]
  refine wpAny_bind (wpAny_standAt (wpAny_bind ?_))
  show wpAny _ X.A (do let _ ← comprehension (.ListComp elt [⟨.Name t px, iter, ifs, 0⟩] sc pos) sc X.env _ (newList []) false (eval iter X.env) (some (assign (.Name y py) X.env))) _ _ s
  refine wpAny_bind (wpAny_mono (wpAny_comprehension_free (use := some (assign (.Name y py) X.env)) (Q := fun _ s' => SP X pins D0 .next s') rfl hs hcl ck.kind ck.loc (thn (hi pins s σ H _ I h) fun v s1 h1 => thn h1 fun itv s2 h2 => ?_)) (fun _ s' hq => wpAny_pure (wpAny_pure hq)) fun _ _ e => e)
  obtain ⟨it, fp, tn, J, H2, e, I2, T, st2, f2, hR⟩ := h2
  subst e
  refine wpAny_newObj_type (wpAny_newFunctionEnv ck.ncell (by intro y hy; simp at hy) (fun h1 hns hsb => ?_) ck.kind)
  dsimp only at hns hsb ⊢
  generalize hp : s2.heap.push { cls := .type "list", dict := none, data := .seq ([] : List Value).toArray } = hh at hns hsb ⊢
  have hC : hh.objs.size = s2.heap.objs.size + 1 := by rw [← hp, Heap.size_push]
  have neD : ∀ {b : Addr}, b < s2.heap.objs.size → b ≠ s2.heap.objs.size := fun hb => Nat.ne_of_lt hb
  have neC : ∀ {b : Addr}, b < s2.heap.objs.size → b ≠ hh.objs.size := fun hb => by rw [hC]; exact Nat.ne_of_lt (Nat.lt_succ_of_lt hb)
  have hDC : s2.heap.objs.size ≠ hh.objs.size := by rw [hC]; exact Nat.ne_of_lt (Nat.lt_succ_self _)
  have hCle : s2.heap.objs.size ≤ hh.objs.size := by rw [hC]; exact Nat.le_succ _
  have old : ∀ b o, s2.heap.get? b = some o → h1.get? b = some o := fun b o e => hsb.extBut b o (neC (Heap.lt_size e)) (Heap.get?_push_of_some _ (hp ▸ Heap.get?_push_of_some _ e))
  have hnew : h1.get? s2.heap.objs.size = some { cls := .type "list", dict := none, data := .seq ([] : List Value).toArray } := hsb.extBut _ _ hDC (Heap.get?_push_of_some _ (hp ▸ Heap.get?_push_size _ rfl))
  have fpH : ∀ b ∈ fp, ∃ o, s2.heap.get? b = some o := fun b hb => let ⟨o, e, _⟩ := T.obj 0 _ st2 b hb; ⟨o, e⟩
  have fpD : ∀ b ∈ fp, b ≠ s2.heap.objs.size := fun b hb => by obtain ⟨o, e⟩ := fpH b hb; exact neD (Heap.lt_size e)
  have fpC : ∀ b ∈ fp, b ≠ hh.objs.size := fun b hb => by obtain ⟨o, e⟩ := fpH b hb; exact neC (Heap.lt_size e)
  have fpS : ∀ b ∈ fp, b ∉ frs X.stack := fun b hb z => (List.mem_cons.mp (I2.stkSub b z)).elim (f2 b hb).2.1 (f2 b hb).2.2.1
  have hok' : (X.comp sc cl hh.objs.size (t :: ys) s2 H2 fp).Ok := by
    refine ⟨I2.ok.mod, ck.kind, I2.ok.glob, I2.ok.blt, hCle, fun x y c a b => I2.ok.inj x y c (cl1 x c a) (cl1 y c b), fun x hx => ?_, (fun x c z => nomatch z), I2.ok.hd, I2.ok.frames, .inl rfl, fun b hb => ⟨fpC b hb, fun x c a => (f2 b hb).2.2.2.2.1 x c (cl1 x c a)⟩,
      I2.bs, Nat.le_trans I2.ok.bsz I2.sz, fun b o e hb => ?_, fun b hb => fpS b hb, I2.stack, I2.stkFree⟩
    · have hx' : (sc.names.map fun (n, k) => if (k == NameKind.free && X.env.scope.kind == .function && X.env.kindOf n == some .cell) then (n, NameKind.cell) else (n, k)).lookup x = some .cell ∨ (sc.names.map fun (n, k) => if (k == NameKind.free && X.env.scope.kind == .function && X.env.kindOf n == some .cell) then (n, NameKind.cell) else (n, k)).lookup x = some .free := hx
      rcases hx' with z | z
      · rcases relabel_inv z with q | ⟨_, q⟩
        · exact absurd rfl (ck.ncell _ (PySem.mem_of_lookup q))
        · exact cl2 x (PySem.mem_of_lookup q)
      · rcases relabel_inv z with q | ⟨q, _⟩
        · exact cl2 x (PySem.mem_of_lookup q)
        · cases q
    · rcases (f2 b hb).2.2.2.1 with z | z
      · exact I2.ok.noex b o e z
      · exact absurd (Nat.lt_of_lt_of_le (Heap.lt_size e) (Nat.le_trans I2.ok.bsz z)) (Nat.lt_irrefl _)
  have Iin : ∀ tk : Nat, Inv (X.comp sc cl hh.objs.size (t :: ys) s2 H2 fp) [] (none :: compS js σ) (upd H2 s2.heap.objs.size (.lst [])) { s2 with heap := h1, toks := tk } := fun tk => by
    refine ⟨hok', rfl, I2.bare, Un.laid old (Nat.le_refl _) I2.fresh, ⟨_, hns, fun i x v e1 e2 e3 => ?_⟩, fun x c e => ?_, ?_, fun x c e => ?_, fun p hp => absurd (show p ∈ ([] : List (Addr × Obj)) from hp) (by simp), I2.hok.laid old (Nat.le_refl _) ⟨Nat.zero_le _, [], 0, .nil, hnew⟩, ?_⟩
    · cases i with
      | zero => simp at e2
      | succ k =>
        have e1' : ys[k]? = some x := e1
        have e2' : (compS js σ)[k]? = some (some v) := by simpa using e2
        unfold compS at e2'
        rw [List.getElem?_map] at e2'
        have q := congrArg (fun l => l[k]?) ck.ysj
        simp only [List.getElem?_map, e1', Option.map_some] at q
        cases hj : js[k]? with
        | none => rw [hj] at q; cases q
        | some j =>
          rw [hj] at q e2'
          have q1 : X.N[j]? = some x := (Option.some.inj q).symm
          have q2 : σ[j]? = some (some v) := by
            have z : (σ[j]?).join = some v := Option.some.inj e2'
            cases hz : σ[j]? with
            | none => rw [hz] at z; cases z
            | some y => rw [hz] at z; exact congrArg some z
          have hf' := ck.ysf x (List.mem_of_getElem? e1')
          have hcell := ck.fre _ (PySem.mem_of_lookup hf') rfl
          obtain ⟨m2, hn2, hl2⟩ := I2.loc
          obtain ⟨u, ru, lk⟩ := hl2 j x v q1 q2 (.inr (.inl hcell))
          refine ⟨u, ru, ?_⟩
          rcases lk with ⟨kk, _⟩ | ⟨_, c, ec, ic⟩
          · have kk' : X.env.scope.names.lookup x = some .local := kk
            have hcell' : X.env.scope.names.lookup x = some .cell := hcell
            rw [hcell'] at kk'; cases kk'
          · obtain ⟨c', ec'⟩ := cl2 x (PySem.mem_of_lookup hf')
            have : c' = c := Option.some.inj ((cl1 x c' ec').symm.trans ec)
            subst this
            refine .inr ⟨relabel_free hf', c', ec', ?_⟩
            obtain ⟨o, ho, hd⟩ := ic
            exact ⟨o, old _ o ho, hd⟩
    · obtain ⟨v, o, ho, hd⟩ := I2.cell x c (cl1 x c e)
      exact ⟨v, o, old _ o ho, hd⟩
    · show upd H2 s2.heap.objs.size _ hh.objs.size = none
      rw [upd_ne (Ne.symm hDC)]
      exact I2.hok.fresh hCle
    · obtain ⟨v, o, ho, hd⟩ := I2.cell x c (cl1 x c e)
      rw [upd_ne (neD (Heap.lt_size ho))]
      exact I2.freeC x c (cl1 x c e)
    · show (none :: compS js σ).length = (t :: ys).length
      have q := congrArg List.length ck.ysj
      simp only [List.length_map] at q
      unfold compS
      simp only [List.length_cons, List.length_map]
      omega
  have st1 : tn 0 h1 := T.keep _ _ _ st2 fun b hb o e => old b o e
  obtain ⟨W, ⟨m0, w0⟩, turn⟩ := hR s2.heap.objs.size I2.fresh
  have fpok : ∀ {H' : Hp}, (∀ b ∈ fp, H' b = none) → ∀ b ∈ fp, FpOk (X.comp sc cl hh.objs.size (t :: ys) s2 H2 fp) [] H' b := fun hn b hb =>
    ⟨hn b hb, fpC b hb, fpS b hb, .inl hb, fun x c a => (f2 b hb).2.2.2.2.1 x c (cl1 x c a), fun p hp => absurd (show p ∈ ([] : List (Addr × Obj)) from hp) (by simp)⟩
  have ndN : (t :: ys).Nodup := ck.nd
  have loop : ∀ s3 : Shared, s3 = { s2 with heap := h1, toks := s2.toks + ([] : List (Str × Value)).length } →
      codeAny (model X.prog X.w) X.A (.compLoop (.ListComp elt [⟨.Name t px, iter, ifs, 0⟩] sc pos) 0 (.ref it) (.ref s2.heap.objs.size) (compEnvC sc cl hh.objs.size X.env))
        (compPost (model X.prog X.w) X.A X.xe (some (assign (.Name y py) X.env)) (fun _ s' => SP X pins D0 .next s') (.ref s2.heap.objs.size) hh.objs.size) s3 := by
    rintro s3 rfl
    refine comp_turns (fun n s' => ∃ i acc H', Inv (X.comp sc cl hh.objs.size (t :: ys) s2 H2 fp) [] (none :: compS js σ) H' s' ∧ tn i s'.heap ∧ (∀ b ∈ fp, H' b = none) ∧ W i n acc H') ?_ m0
      ⟨0, [], _, Iin _, st1, fun b hb => by rw [upd_ne (fpD b hb)]; exact (f2 b hb).1, w0⟩
    rintro n s3 ⟨i, acc, H3, I3, st3, fr3, w3⟩
    obtain ⟨hD, hz, alt⟩ := turn i n acc H3 w3
    rcases alt with ⟨stop, q⟩ | ⟨go, step⟩
    · refine thn (T.done (X.comp sc cl hh.objs.size (t :: ys) s2 H2 fp) rfl rfl rfl hc i [] s3 _ H3 _ I3 (fpok fr3) st3 stop) fun r s4 ⟨hr, I4⟩ => ?_
      subst hr
      obtain ⟨m, hn, _⟩ := id I4.loc
      have ltC : ∀ b o, s2.heap.get? b = some o → b ≠ hh.objs.size := fun b o e => neC (Heap.lt_size e)
      have b4 : Un (frs X.stack) fp H2 H3 s2.heap s4.heap := I4.base
      have I5 : Inv X pins σ H3 s4 := I2.call' (s' := s4) (ch := fp) I4.os ⟨fun b o e n1 n2 n3 => b4.keep b o e n1 n2 n3, fun b o e n1 n2 n3 => b4.slot b o e n1 n2 n3, b4.free, fun b o e n1 => b4.there b o e n1, b4.tups, b4.frzs, b4.tbls⟩ (fun b ob e => I4.hok b ob e) I4.bare
        (fun b hb => ⟨(f2 b hb).2.2.2.1, (f2 b hb).2.1, (f2 b hb).2.2.2.2.1, (f2 b hb).2.2.2.2.2⟩)
      have fC : FpOk X pins H3 hh.objs.size := I2.fpOk hCle I4.free
      obtain ⟨oC, es, ep, hoC, dC, rC⟩ := id hn
      have I6 : Inv X (pins ++ [(hh.objs.size, oC)]) σ H3 s4 := I5.pins_of fun p hp => (List.mem_append.mp hp).elim (fun z => I5.pin p (List.mem_append_right _ z)) fun z => by
        rw [List.mem_singleton.mp z]
        exact ⟨hoC, fC.1, fC.2.1, fC.2.2.1, fun v z => by rw [dC] at z; cases z⟩
      show wpAny _ X.A (assign (.Name y py) X.env (.ref s2.heap.objs.size)) _ _ s4
      refine thn (hg _ s4 σ H3 (.ref s2.heap.objs.size) _ _ I6 rfl q) fun _ s7 ⟨σ7, H7, I7, q7⟩ => ?_
      obtain ⟨p1, p2, p3, p4, p5⟩ := I7.pin (hh.objs.size, oC) (List.mem_append_right _ (List.mem_append_right _ (List.mem_singleton.mpr rfl)))
      refine ⟨m, ⟨oC, es, ep, p1, dC, rC⟩, fun h' sb => ⟨σ7, H7, ?_, q7⟩⟩
      exact I7.unpinned.turned (t' := s7.toks) (fun b o hb e => (sb.2 b hb).trans e) p2 p3 fC.2.2.2.1 fC.2.2.2.2.1 fC.2.2.2.2.2
    · refine thn (T.item (X.comp sc cl hh.objs.size (t :: ys) s2 H2 fp) rfl rfl rfl hc i [] s3 _ H3 _ I3 (fpok fr3) st3 go) fun r s4 ⟨u, hr, h4⟩ => ?_
      subst hr
      refine thn h4 fun _ s5 ⟨x, H5, I5, r5, y5, st5, fr5⟩ => ?_
      have I5' := I5.pinned (fpok fr5) (T.obj _ _ st5)
      refine wpAny_assign_Name (store_ok (i := 0) I5' ndN rfl (.inl (lookup_relabel_local ck.tl)) r5 (fun s6 I6 => ?_) (.inr (lookup_relabel_local ck.tl)))
      have again : ∀ {H7 : Hp} {s7 : Shared} {m' : Nat} {acc' : List V}, Inv (X.comp sc cl hh.objs.size (t :: ys) s2 H2 fp) ([] ++ pinsAt fp s5.heap) (some x :: compS js σ) H7 s7 → m' < n → W (i + 1) m' acc' H7 →
          ∃ m, m < n ∧ ∃ i acc H', Inv (X.comp sc cl hh.objs.size (t :: ys) s2 H2 fp) [] (none :: compS js σ) H' s7 ∧ tn i s7.heap ∧ (∀ b ∈ fp, H' b = none) ∧ W i m acc H' := fun {H7 s7 m' acc'} I7 hm w7 => by
        refine ⟨m', hm, i + 1, acc', H7, (I7.unpinned).weak rfl (fun k v e => ?_), T.keep _ _ _ st5 fun b hb o e => (I7.pin (b, o) (List.mem_append_right _ (List.mem_append_right _ (mem_pinsAt hb e)))).1, fun b hb => ?_, w7⟩
        · cases k with
          | zero => simp at e
          | succ k => simpa using e
        · obtain ⟨o, e, d⟩ := T.obj _ _ st5 b hb
          exact (I7.pin (b, o) (List.mem_append_right _ (List.mem_append_right _ (mem_pinsAt hb e)))).2.1
      refine thn (hf _ _ _ _ _ _ s6 _ H5 _ I6 (step x H5 y5)) fun ok s7 ⟨H7, I7, q7⟩ => ?_
      cases ok with
      | false =>
        obtain ⟨m', hm, w7⟩ := q7
        exact again I7 hm w7
      | true =>
        refine thn (he _ _ _ _ _ _ s7 _ H7 _ I7 q7) fun uy s8 ⟨y, H8, I8, r8, hD8, m', hm, w8⟩ => ?_
        refine thn (mt_append (X := X.comp sc cl hh.objs.size (t :: ys) s2 H2 fp) _ s8 _ H8 (.ref s2.heap.objs.size) [y] (.ref s2.heap.objs.size) [uy] (fun _ H9 => W (i + 1) m' (acc ++ [y]) H9) I8 rfl (.cons r8 .nil) ⟨_, acc, y, rfl, rfl, hD8, hz, w8⟩) fun _ s9 ⟨_, H9, I9, _, q9⟩ => ?_
        exact again I9 hm q9
  exact codeAny_compStart_list (loop _ rfl) (T.self _ 0 _ _ _ st1 (loop _ rfl))
theorem qs_setC {X : Cx} {elt iter : Expr} {ifs : List Expr} {sc : Scope} {pos px py spos : Pos} {t y : Str} {ys : List Str} {js : List Nat} {wi : TI} {tc : TT} {te : TE} {g : TG} (hc : X.calm = true) (hck : compChk X.N X.env.scope sc t ys js = true)
    (hi : QI X (.Name t px) iter wi) (hf : ∀ cl C s H fp, QIf (X.comp sc cl C (t :: ys) s H fp) ifs tc) (he : ∀ cl C s H fp, QE (X.comp sc cl C (t :: ys) s H fp) elt te) (hg : QG X (.Name y py) g)
    (hsw : swapsWith (.ListComp elt [⟨.Name t px, iter, ifs, 0⟩] sc pos) (some (.Name y py)) spos.line X.env = pure true) (hs : ∀ x, foldedSetIterable iter X.env x = pure x := by intro _; rfl) :
    QS X (.Assign [.Name y py] (.ListComp elt [⟨.Name t px, iter, ifs, 0⟩] sc pos) spos) (tAsg (tComp wi js tc te) g) := ⟨ps_setC hc hck hi.h (fun cl C s H fp => (hf cl C s H fp).h) (fun cl C s H fp => (he cl C s H fp).h) hg.h hsw hs⟩
end L2
set_option Elab.async false
set_option linter.all false
set_option maxRecDepth 100000
set_option maxHeartbeats 4000000
namespace L2
open PySem PySem.Spec PyProof.Rows
section
variable {K : PySem.W.Frag} {a : Addr} {xs ys : List V} {js : List Nat} {g : TG} {n : Nat} {te : TE} {σ : St} {Q : VK} {D : Addr} {H1 : Hp}
end
end L2
set_option Elab.async false
set_option linter.all false
set_option maxRecDepth 100000
set_option maxHeartbeats 4000000
namespace L2
open PySem PySem.Spec PyProof.Rows
section
variable {prog : Program} {w : World} {A : Around} {E : Value → Shared → Prop} {s : Shared}
end
section
variable {X : Cx} {e : Expr} {te : TE} {p1 p2 q1 q2 : Pos}
end
end L2
set_option Elab.async false
set_option linter.all false
set_option maxRecDepth 100000
set_option maxHeartbeats 4000000
namespace TM
open PySem L2
def SameT (H H' : Hp) : Prop := ∀ b xs, H b = some (.tup xs) → H' b = some (.tup xs)
theorem sameT {H H' : Hp} (e : Same H H') : SameT H H' := fun b xs h => e b _ h
theorem SameT.refl (H : Hp) : SameT H H := fun _ _ h => h
theorem SameT.trans {H H1 H2 : Hp} (a : SameT H H1) (b : SameT H1 H2) : SameT H H2 := fun c xs h => b c xs (a c xs h)
theorem sameT_lst {H : Hp} {r : Addr} {xs ys : List V} (h : H r = some (.lst xs)) : SameT H (upd H r (.lst ys)) := fun b zs q => by
  rw [upd_ne (ne_of q h (fun z => nomatch z))]
  exact q
end TM
set_option Elab.async false
set_option linter.all false
set_option maxRecDepth 100000
set_option maxHeartbeats 4000000
namespace L2
open PySem PySem.Spec PyProof.Rows
section
variable {X : Cx} {o e value a : Expr} {f : Str} {pos pos' tpos : Pos} {ta tv : TE}
end
section
variable {X : Cx} {CX : CXT} {k : Nat} {f C : Addr} {fd : FuncData} {ps : List Str} {sp : Sp} {ds : List Value} {dvs : List V} {E : XK} {x m : Str} {p pos apos : Pos} {e o : Expr} {es : List Expr} {ta : TE} {t : TA}
end
end L2
set_option Elab.async false
set_option linter.all false
set_option maxRecDepth 100000
set_option maxHeartbeats 4000000
namespace TM
open PySem L2
theorem app_list (a b : Str) : (a ++ b).cps.toList = a.cps.toList ++ b.cps.toList := by
  show (a.cps ++ b.cps).toList = _
  simp
theorem len_list (a : Str) : a.length = a.cps.toList.length := by simp [Str.length]
def letOk (c : Nat) : Bool := decide (97 ≤ c) && decide (c ≤ 122)
end TM
set_option Elab.async false
set_option linter.all false
set_option maxRecDepth 100000
set_option maxHeartbeats 4000000
namespace TM
open PySem L2
open PySem.Builtin.Str (strSub occurrences partsBetween)
end TM
set_option Elab.async false
set_option linter.all false
set_option maxRecDepth 100000
set_option maxHeartbeats 4000000
namespace L2
open PySem PySem.Spec PyProof.Rows
open PySem.Builtin.Str (strSub occurrences)
section
variable {X : Cx}
def rInsert : V → List V → Hp → VK → Prop := fun x vs H Q => ∃ l xs k y, x = .ref l ∧ vs = [.int k, y] ∧ H l = some (.lst xs) ∧ 0 ≤ k ∧ k ≤ xs.length ∧ xs.length < sizeLine ∧ Q .non (upd H l (.lst (xs.take k.toNat ++ y :: xs.drop k.toNat)))
theorem mt_insert : MtM X "list.insert" rInsert := by
  intro pins s σ H x vs v us Q I rx rv h
  obtain ⟨l, xs, k, y, rfl, rfl, hH, h0, hk, hz, q⟩ := h
  cases rx
  cases rv with
  | cons rk rr =>
    obtain ⟨t, rfl⟩ := rk
    obtain ⟨u, rfl, ru⟩ := Vals.one rr
    obtain ⟨z, its, n, r, hl, e⟩ := I.lstM hH
    have hlen := r.length
    have hfit : ¬ (!Builtin.List.listFitsIndex k) = true := by
      have hs : (sizeLine : Int) < 2 ^ 63 := by decide
      have := fitsIndex_both (k := k) (by omega) (by omega)
      rw [this]
      decide
    refine call_meets F.slot_list_insert ⟨_, e, rfl⟩ F.entry_list_insert (F.args_list_insert_3 _ _ _) (AutoListH.list_insert_list_int_val_1 l its.toArray n k t u hfit (by rw [List.size_toArray]; omega)) ⟨e, ?_⟩
    refine ⟨.non, _, I.lset (its' := its.take k.toNat ++ u :: its.drop k.toNat) hH e ?_ (Vals.append (r.take _) (.cons ru (r.drop _))) ?_, rfl, q⟩
    · show (its.toArray.extract 0 (if k < 0 then (k + ((its.toArray.size : Nat) : Int)).toNat else min k.toNat its.toArray.size)).push u ++ its.toArray.extract (if k < 0 then (k + ((its.toArray.size : Nat) : Int)).toNat else min k.toNat its.toArray.size) = _
      rw [if_neg (by omega)]
      have em : min k.toNat its.toArray.size = k.toNat := by rw [List.size_toArray]; omega
      rw [em]
      apply Array.toList_inj.mp
      simp
      rw [List.take_of_length_le (by simp)]
    · rw [List.length_append, List.length_cons, List.length_take, List.length_drop]
      omega
end
section
variable {X : Cx} {tg : Expr}
end
theorem qe_bmC {X : L2.Cx} {K : PySem.W.Frag} {o : PySem.Expr} {e : PySem.Expr} {es : List PySem.Expr} {to : L2.TE} {t : L2.TA} {name : PySem.Str} {apos : PySem.Pos} {cpos : PySem.Pos} {T : String} {id : String} {r : L2.V → List L2.V → L2.Hp → L2.VK → Prop} (hK : X.K = K) (pa : PySem.PlainAttrs T) (slot : PySem.Slot T name id) (hty : PySem.typeOf (PySem.Value.builtin id) = Pure.pure (PySem.Value.type "method_descriptor")) (hm : L2.MtR X id r) (ho : QE X o to) (ha : QA X (e :: es) t) (hbase : PySem.attributeBase o name (L2.Cx.env X) (PySem.eval o (L2.Cx.env X)) = PySem.eval o (L2.Cx.env X) := by rfl) (hfew : (((List.all (PySem.backTo cpos (PySem.starEach (e :: es) (L2.Cx.env X))) fun (x : Bool × PySem.Sem PySem.Value) => !Prod.fst x) && List.all (PySem.backToKw cpos (PySem.keywordEach [] (L2.Cx.env X))) fun (x : Option PySem.Str × PySem.Sem PySem.Value) => Option.isSome (Prod.fst x)) && Decidable.decide ((List.length (e :: es) + List.length ([] : List PySem.Keyword) + if List.isEmpty ([] : List PySem.Keyword) = Bool.true then 0 else 1) < 30)) = Bool.true := by rfl) (hline : (PySem.Pos.endLine apos == PySem.Pos.line cpos) = Bool.true := by rfl) (hs : PySem.starEach (e :: es) (L2.Cx.env X) = (Bool.false, PySem.eval e (L2.Cx.env X)) :: PySem.starEach es (L2.Cx.env X) := by rfl) (hplain : (List.any (PySem.backTo cpos (PySem.starEach es (L2.Cx.env X))) fun (x : Bool × PySem.Sem PySem.Value) => Prod.fst x) = Bool.false := by rfl) : QE X (PySem.Expr.Call (PySem.Expr.Attribute o name apos) (e :: es) [] cpos) (L2.tBM K T r to t) := by
  subst hK
  exact qe_bm pa slot hty hm ho ha hbase hfew hline hs hplain
end L2
set_option Elab.async false
set_option linter.all false
set_option maxRecDepth 100000
set_option maxHeartbeats 4000000
namespace TM
open PySem L2
inductive L2R {α : Type} (R : α → V → Prop) : List α → List V → Prop
  | nil : L2R R [] []
  | cons {a : α} {v : V} {as : List α} {vs : List V} : R a v → L2R R as vs → L2R R (a :: as) (v :: vs)
namespace L2R
variable {α : Type} {R R' : α → V → Prop}
theorem imp (h : ∀ a v, R a v → R' a v) : ∀ {as : List α} {vs : List V}, L2R R as vs → L2R R' as vs
  | _, _, .nil => .nil
  | _, _, .cons x y => .cons (h _ _ x) (imp h y)
theorem len : ∀ {as : List α} {vs : List V}, L2R R as vs → vs.length = as.length
  | _, _, .nil => rfl
  | _, _, .cons _ y => by rw [List.length_cons, List.length_cons, len y]
theorem get : ∀ {as : List α} {vs : List V} {i : Nat} {v : V}, L2R R as vs → vs[i]? = some v → ∃ a, as[i]? = some a ∧ R a v
  | _, _, i, v, .nil, e => by simp at e
  | _, _, 0, v, .cons (a := a) x y, e => by
    simp at e
    subst e
    exact ⟨a, rfl, x⟩
  | _, _, i + 1, v, .cons x y, e => by
    obtain ⟨b, hb, r⟩ := get (i := i) y (by simpa using e)
    exact ⟨b, by simpa using hb, r⟩
theorem app : ∀ {as bs : List α} {vs us : List V}, L2R R as vs → L2R R bs us → L2R R (as ++ bs) (vs ++ us)
  | _, _, _, _, .nil, g => g
  | _, _, _, _, .cons x y, g => .cons x (app y g)
theorem one {a : α} {v : V} (h : R a v) : L2R R [a] [v] := .cons h .nil
theorem snoc {as : List α} {vs : List V} {a : α} {v : V} (h : L2R R as vs) (g : R a v) : L2R R (as ++ [a]) (vs ++ [v]) := h.app (one g)
theorem nil_of {vs : List V} (h : L2R R [] vs) : vs = [] := by cases h; rfl
theorem inv_cons {a : α} {as : List α} {vs : List V} (h : L2R R (a :: as) vs) : ∃ v r, vs = v :: r ∧ R a v ∧ L2R R as r := by
  cases h with
  | cons x y => exact ⟨_, _, rfl, x, y⟩
end L2R
section
variable {H H' : Hp}
end
def NmOk (z : Str) : Prop := z.cps.toList ≠ [] ∧ z.cps.toList.length ≤ 8 ∧ ∀ c ∈ z.cps.toList, letOk c = true
end TM
set_option Elab.async false
set_option linter.all false
set_option maxRecDepth 100000
set_option maxHeartbeats 4000000
namespace L2
open PySem PySem.Spec PyProof.Rows TM
theorem take_snocA {α : Type} {xs : List α} {i : Nat} {x : α} (h : xs[i]? = some x) : xs.take (i + 1) = xs.take i ++ [x] := by
  rw [List.take_succ, h]
  rfl
section
variable {K : PySem.W.Frag} {a : Addr} {xs : List V} {js : List Nat} {g : TG} {n : Nat} {te : TE} {σ : St} {Q : VK} {D : Addr} {H1 : Hp} {α : Type} {R : Hp → α → V → Prop} {as : List α}
def OffD (D : Addr) (R : Hp → α → V → Prop) : Prop := ∀ H H' acc b v, H D = some (.lst acc) → (∀ c o, c ≠ D → H c = some o → H' c = some o) → R H b v → R H' b v
theorem OffD.ofT (h : ∀ H H' b v, SameT H H' → R H b v → R H' b v) : OffD D R := fun H H' acc b v d k r => h H H' b v (fun c ys e => k c _ (fun z => by rw [z, d] at e; cases e) e) r
theorem comp_lstR (st : OffD D R) (hz : xs.length < sizeLine) (hlen : as.length = xs.length) (ha : SqL K H1 a xs) (hD : H1 D = none)
    (he : ∀ (i : Nat) (x : V) (b : α) (H : Hp), xs[i]? = some x → as[i]? = some b → Same H1 H → (∃ acc, H D = some (.lst acc)) → ∀ Q' : VK, (∀ y H', Same H H' → R H' b y → Q' y H') → te (some x :: compS js σ) H Q')
    (hq : ∀ ys H', Same H1 H' → H' D = some (.lst ys) → L2R (R H') as ys → Q (.ref D) H') : CompW (Itl K a) js tYes te σ Q D H1 := by
  refine comp_lst (K := K) (a := a) (xs := xs) (fun i acc H => i ≤ xs.length ∧ Same H1 H ∧ H D = some (.lst acc) ∧ L2R (R H) (as.take i) acc) hz ⟨Nat.zero_le _, same_new hD _, upd_same, .nil⟩ (fun i acc H ⟨l, s, d, r⟩ => ⟨d, ?_, Same.seq s ha⟩) ?_ ?_
  · rw [r.len, List.length_take]
    omega
  · rintro i m x acc H hi ⟨l, s, d, r⟩ hm
    have hlt := lt_of_some hi
    obtain ⟨b, hb⟩ := some_of_lt (xs := as) (i := i) (by omega)
    refine he i x b H hi hb s ⟨_, d⟩ _ fun y H4 s4 r4 => ⟨s4 _ _ d, xs.length - (i + 1), by omega, rfl, hlt, hlt, same_upd hD (s.trans s4), upd_same, ?_⟩
    have k : ∀ c o, c ≠ D → H4 c = some o → upd H4 D (.lst (acc ++ [y])) c = some o := fun c o hc e => by rw [upd_ne hc]; exact e
    rw [take_snocA hb]
    exact (r.imp fun b v r => st _ _ _ b v (s4 _ _ d) k (st _ _ _ b v d (fun c o _ e => s4 c o e) r)).snoc (st _ _ _ b y (s4 _ _ d) k r4)
  · rintro acc H ⟨l, s, d, r⟩
    rw [List.take_of_length_le (by omega)] at r
    exact hq acc H s d r
end
end L2
set_option Elab.async false
set_option linter.all false
set_option maxRecDepth 100000
set_option maxHeartbeats 4000000
namespace L2
open PySem PySem.Spec PyProof.Rows
end L2
set_option Elab.async false
set_option linter.all false
set_option maxRecDepth 100000
set_option maxHeartbeats 4000000
namespace L2
open PySem PySem.Spec PyProof.Rows
section
variable {prog : Program} {w : World} {A : Around} {E : Value → Shared → Prop} {s : Shared}
end
end L2
set_option Elab.async false
set_option linter.all false
set_option maxRecDepth 100000
set_option maxHeartbeats 4000000
namespace L2
open PySem PySem.Spec PyProof.Rows
section
variable {prog : Program} {w : World} {A : Around} {E : Value → Shared → Prop} {s : Shared}
end
section
variable {X : Cx} {e : Expr} {te : TE} {p1 p2 q1 q2 : Pos}
end
end L2
set_option Elab.async false
set_option linter.all false
set_option maxRecDepth 100000
set_option maxHeartbeats 4000000
namespace L2
open PySem PySem.Spec PyProof.Rows
section
variable {X : Cx} {elts : List Expr} {k : Nat} {tpos : Pos}
end
end L2
set_option Elab.async false
set_option linter.all false
set_option maxRecDepth 100000
set_option maxHeartbeats 4000000
namespace L2
open PySem PySem.Spec PyProof.Rows
section
variable {X : Cx}
theorem qe_dget {o i : Expr} {pos : Pos} {td ty : TE} (hu : X.A.units + 1 < cLine) (ho : QE X o td) (hi : QE X i ty) (hs : NoSl i := by intro _ _; rfl) : QE X (.Subscript o i pos) (tDGet td ty) := ⟨pe_dget hu ho.h hi.h hs⟩
theorem qs_dput {o i value : Expr} {pos pos' : Pos} {td ty tv : TE} (hu : X.A.units + 1 < cLine) (ho : QE X o td) (hi : QE X i ty) (hv : QE X value tv) (hs : swapsWith value (some (.Subscript o i pos')) pos.line X.env = pure false := by rfl) : QS X (.Assign [.Subscript o i pos'] value pos) (sDPut td ty tv) := ⟨ps_dput hu ho.h hi.h hv.h hs⟩
end
end L2
set_option Elab.async false
set_option linter.all false
set_option maxRecDepth 100000
set_option maxHeartbeats 4000000
namespace L2
open PySem PySem.Spec PyProof.Rows
section
variable {X : Cx}
theorem op_neNil (hu : X.A.units + 64 < cLine) : OpR X (compareOp .NotEq) (fun x y H Q => ∃ a b xs, x = .ref a ∧ y = .ref b ∧ SqL X.K H a xs ∧ SqL X.K H b [] ∧ Q (.bl (!decide (xs = []))) H) := by
  intro pins s σ H x y v u Q I rx ry h
  obtain ⟨a, b, xs, e1, e2, ha, hb, q⟩ := h
  by_cases hx : xs = []
  · subst hx
    refine op_neD hu pins s σ H x y v u Q I rx ry ⟨a, b, [], [], [], [], e1, e2, .inr ⟨ha, hb⟩, isds_nil, isds_nil, by unfold depDs; omega, ?_⟩
    have e : (!(eqDs [] [])) = !decide (([] : List V) = []) := by unfold eqDs; rfl
    rw [e]
    exact q
  · subst e1 e2
    cases rx
    cases ry
    obtain ⟨us, r1, p1, _⟩ := I.list ha
    obtain ⟨ws, r2, p2, _⟩ := I.list hb
    cases r2
    have hne : us ≠ [] := fun z => hx ((Vals.nil_iff r1).mp z)
    refine SeqAt.RcNeAt.lists_lengths p1.isList p2.isList (by simpa using hne) (by omega) _ _ _ _ ⟨.bl _, H, I, ?_, q⟩
    rw [decide_eq_false hx]
    rfl
end
theorem rvOther {n : String} (h : n = "reversed" ∨ n = "range_iterator") : ["enumerate", "zip", "dict_itemiterator", "dict_reverseitemiterator", "odict_iterator", "itertools.zip_longest", "itertools.pairwise"].contains n = false := by
  rcases h with rfl | rfl <;> decide
section
variable {X : Cx} {tg e : Expr} {te : TE} {p q : Pos}
end
theorem sub_ri : isSubtype (.type "range_iterator") (.type "reversed") = pure false := by rw [isSubtype_type]; kernel_rfl
section
variable {prog : Program} {w : World} {A : Around} {E : Value → Shared → Prop} {s : Shared}
def rgi (n : Nat) : Obj := { cls := .type "range_iterator", data := .fields #[rawInt ((n : Int) - 1), rawInt n, rawInt (-1)] }
theorem rg_rev {r : Addr} {n : Nat} {t u v : Tok} {Q : Value → Shared → Prop} (hr : IsRange s.heap r 0 (n : Int) 1 t u v) (hn : n ≤ 100000) (h : Q (.ref s.heap.objs.size) { s with heap := s.heap.push (rgi n) }) :
    wpAny (model prog w) A (call (.builtin "range.__reversed__") [.ref r]) Q E s := by
  have hT : s.TypeIs (.ref r) "range" := ⟨_, hr, rfl⟩
  refine wpAny_call_entry F.slot_range_reversed hT F.entry_range_reversed ?_ (F.args_range_reversed_1 _)
  unfold Builtin.«range.__reversed__»
  refine wpAny_bind (wpAny_of_eq (a := Value.ref r) rfl ?_)
  have hsz : Builtin.Range.rangeSize 0 (n : Int) 1 = n := by
    unfold Builtin.Range.rangeSize
    rw [if_pos (by decide)]
    split <;> omega
  have hsm : (Builtin.Range.rangeFitsLong 0 && Builtin.Range.rangeFitsLong (n : Int) && Builtin.Range.rangeFitsLong 1 && Builtin.Range.rangeFitsLong (-1) && Builtin.Range.rangeFitsLong (0 - 1) && Builtin.Range.rangeFitsLong (Builtin.Range.rangeSize 0 (n : Int) 1)) = true := by
    rw [hsz]
    simp only [Builtin.Range.rangeFitsLong, Bool.and_eq_true, decide_eq_true_eq]
    omega
  have hf : wpAny (model prog w) A.in1 (Builtin.Range.rangeFields (.ref r)) (fun x s' => x = (0, (n : Int), 1) ∧ s' = s) (fun _ _ => False) s := by
    unfold Builtin.Range.rangeFields
    refine wpAny_bind (wpAny_field hr rfl (x := .int 0 t) rfl (wpAny_bind (wpAny_of_eq (a := some 0) rfl ?_)))
    refine wpAny_bind (wpAny_field hr rfl (x := .int n u) rfl (wpAny_bind (wpAny_of_eq (a := some (n : Int)) rfl ?_)))
    refine wpAny_bind (wpAny_field hr rfl (x := .int 1 v) rfl (wpAny_bind (wpAny_of_eq (a := some 1) rfl ?_)))
    exact wpAny_pure ⟨rfl, rfl⟩
  refine wpAny_bind (wpAny_mono hf (fun x s' hx => ?_) fun _ _ z => z.elim)
  obtain ⟨rfl, rfl⟩ := hx
  dsimp only
  rw [hsm, hsz]
  refine wpAny_bind (wpAny_newObj_type (wpAny_pure ⟨_, rfl, ?_⟩) (by size_fits))
  have e : (0 : Int) + ((n : Int) - 1) * 1 = (n : Int) - 1 := by omega
  show Q _ { s' with heap := s'.heap.push { cls := .type "range_iterator", data := .fields #[rawInt (0 + ((n : Int) - 1) * 1), rawInt n, rawInt (-1)] } }
  rw [e]
  exact h
theorem rg_new {r : Addr} {n : Nat} {t u v : Tok} {Q₁ : Value → Shared → Prop} (hr : IsRange s.heap r 0 (n : Int) 1 t u v) (hn : n ≤ 100000) (h : Q₁ (.ref s.heap.objs.size) { s with heap := s.heap.push (rgi n) }) :
    codeAny (model prog w) A (.call (.builtin "reversed.__new__") ⟨[.type "reversed", .ref r], []⟩) (wants Q₁ E) s := by
  have hT : s.TypeIs (.ref r) "range" := ⟨_, hr, rfl⟩
  refine codeAny_of_tree (show wpAny _ A.in1 (do checkBuiltinCall "reversed.__new__" ⟨[.type "reversed", .ref r], []⟩; again (.builtin "reversed.__new__" ⟨[.type "reversed", .ref r], []⟩)) _ _ s from wpAny_bind (wpAny_of_eq (F.newCall_reversed_1 _) (wpAny_pure ⟨plainId_quiet F.plain_reversed_new _, codeAny_builtin F.entry_reversed_new ?_⟩)))
  rw [Around.under_plainId F.plain_reversed_new _, Builtin.«reversed.__new__»]
  refine wpAny_bind (wpAny_of_eq (newClass_reversed _) (show wpAny _ _ (_ >>= _) _ _ _ from wpAny_bind (wpAny_of_eq (a := ()) (by first | rfl | kernel_rfl) (wpAny_bind (wpAny_of_eq (a := ()) (by first | rfl | kernel_rfl) ?_)))))
  refine (show wpAny _ _ (_ >>= _) _ _ _ from wpAny_bind (wpAny_specialOf hT F.slot_range_reversed.lookup (show wpAny _ _ (_ >>= _) _ _ _ from wpAny_bind (wpAny_of_eq (F.slot_range_reversed.bind _) ?_))))
  show wpAny _ _ (if (Value.builtin "range.__reversed__" == Value.none) = true then _ else _) _ _ _
  rw [if_neg (by decide)]
  refine wpAny_bind (wpAny_rule (wpAny_bind (m := runValue (.call (.builtin "range.__reversed__") ⟨[.ref r], []⟩)) (show wpAny _ _ (call (.builtin "range.__reversed__") [.ref r]) _ _ _ from rg_rev hr hn ?_)))
  first | exact wpAny_pure h | exact wpAny_bind (wpAny_pure (wpAny_pure h))
theorem rg_call {r : Addr} {n : Nat} {t u v : Tok} {Q : Value → Shared → Prop} (hr : IsRange s.heap r 0 (n : Int) 1 t u v) (hn : n ≤ 100000) (h : Q (.ref s.heap.objs.size) { s with heap := s.heap.push (rgi n) }) : wpAny (model prog w) A (call (.type "reversed") [.ref r]) Q E s := by
  refine callType_other (T := "reversed") (U := "range_iterator") (Q₁ := fun obj s₁ => obj = .ref s.heap.objs.size ∧ s₁ = { s with heap := s.heap.push (rgi n) }) (by decide +kernel) F.create_reversed ⟨_, _, F.mro_reversed⟩ F.made_reversed sub_ri (F.typeCall_reversed_1 _) (rg_new hr hn ⟨rfl, rfl⟩) ?_
  intro obj s₁ hq
  obtain ⟨e1, e2⟩ := hq
  subst e1 e2
  exact ⟨⟨_, Heap.get?_push_size _ rfl, rfl⟩, h⟩
end
def ItRR (n : Nat) : It := ⟨fun i _ => i < n, fun i H x H' => H' = H ∧ x = .int ((n : Int) - 1 - (i : Nat)), fun i _ => n ≤ i⟩
theorem turn_revR {P : Program} {w : World} {K : PySem.W.Frag} {tg : Expr} (it : Addr) (n : Nat) : Turn P w K tg (ItRR n) [it] it (fun i h => IsRangeIter h it (((n : Int) - 1) + (i : Nat) * (-1)) ((n : Int) - (i : Nat)) (-1)) where
  mem := by simp
  obj := fun i h st b hb => by
    have e : b = it := by simpa using hb
    subst e
    exact ⟨_, st, fun v z => by
      have z' : Data.fields _ = Data.cell v := z
      cases z'⟩
  keep := fun i h h' st k => k it (by simp) _ st
  item := by
    intro X hP hw hK hc i pins s σ H E I hf st hg
    subst hP hw hK
    obtain ⟨f0, f1, f2, f3, f4, f5⟩ := hf it (by simp)
    have W := Walks.range (prog := X.prog) (w := X.w) (I.ok.hd hc) it ((n : Int) - 1) (-1) n
    refine W.item i s _ _ hg st fun v h' tk hv st' kk => ?_
    obtain ⟨t, rfl⟩ := hv
    have I1 : Inv X pins σ H { s with heap := h', toks := tk } := I.turned (fun b o hb e => kk b o (by simpa using hb) e) f0 f1 f3 f4 f5
    have e1 : ((n : Int) - 1) + (i : Nat) * (-1) = (n : Int) - 1 - (i : Nat) := by omega
    refine ⟨_, rfl, go_of (s := { s with heap := h', toks := tk }) (n := "range_iterator") st' rfl rfl (rvOther (.inr rfl)) ⟨.int (((n : Int) - 1) + (i : Nat) * (-1)), H, I1, ⟨t, rfl⟩, ⟨rfl, by rw [e1]⟩, st', fun b hb => (hf b hb).1⟩⟩
  done := by
    intro X hP hw hK hc i pins s σ H E I hf st hg
    subst hP hw hK
    obtain ⟨f0, f1, f2, f3, f4, f5⟩ := hf it (by simp)
    exact wpAny_pyNext_range_end (I.ok.hd hc) st (by have : n ≤ i := hg; omega) fun h' eb => ⟨rfl, I.turned (t' := s.toks) (fun b o hb e => eb b o hb e) f0 f1 f3 f4 f5⟩
  self := fun _ _ _ _ _ st h => wpAny_pyIter_rangeiter st h
section
variable {X : Cx} {tg e : Expr} {te : TE} {p1 p2 q1 q2 : Pos}
def iRevR (te : TE) : TI := fun σ H R => te σ H fun x H1 => ∃ n : Nat, x = .int (n : Int) ∧ n ≤ 100000 ∧ R (ItRR n) H1
theorem pi_revR (hc : X.calm = true) (g1 : Gl X "reversed") (m1 : X.mg "reversed" = none) (g2 : Gl X "range") (m2 : X.mg "range" = none) (he : PE X e te)
    (hs2 : starEach [e] X.env = [(false, eval e X.env)] := by rfl) (hs1 : starEach [.Call (.Name "range" p2) [e] [] q2] X.env = [(false, eval (.Call (.Name "range" p2) [e] [] q2) X.env)] := by rfl) :
    PI X tg (.Call (.Name "reversed" p1) [.Call (.Name "range" p2) [e] [] q2] [] q1) (iRevR te) := by
  intro pins s σ H R I h
  refine Call_ (ld_blt I g1 m1 boot_reversed (PyProof.Rows.callWith_type1 ?_ hs1 rfl))
  rw [hs1]
  show wpAny _ _ (spliced ((false, eval (.Call (.Name "range" p2) [e] [] q2) X.env) :: backTo q1 [])) _ _ s
  refine Calls.spliced_cons (Call_ (ld_blt I g2 m2 boot_range (PyProof.Rows.callWith_type1 ?_ hs2 rfl)))
  rw [hs2]
  show wpAny _ _ (spliced ((false, eval e X.env) :: backTo q2 [])) _ _ s
  refine Calls.spliced_cons (thn (he pins s σ H _ I h) fun u s1 ⟨x, H1, I1, r1, n, ex, hn, k⟩ => ?_)
  subst ex
  obtain ⟨t, rfl⟩ := r1
  refine Calls.spliced_nil ?_
  refine call_range_1 (Calls.spliced_nil ?_)
  have I2 : Inv X pins σ H1 { s1 with heap := s1.heap.push { cls := .type "range", data := .fields #[.int 0 s1.toks, .int n t, .int 1 (s1.toks + 1)] }, toks := s1.toks + 1 + 1 } := I1.kept fun b o e => Heap.get?_push_of_some _ e
  refine rg_call (s := { s1 with heap := s1.heap.push { cls := .type "range", data := .fields #[.int 0 s1.toks, .int n t, .int 1 (s1.toks + 1)] }, toks := s1.toks + 1 + 1 }) (IsRange.new ..) hn ?_
  have st : IsRangeIter ((s1.heap.push { cls := .type "range", data := .fields #[.int 0 s1.toks, .int n t, .int 1 (s1.toks + 1)] }).push (rgi n)) (s1.heap.push { cls := .type "range", data := .fields #[.int 0 s1.toks, .int n t, .int 1 (s1.toks + 1)] }).objs.size (((n : Int) - 1) + ((0 : Nat) : Int) * (-1)) ((n : Int) - ((0 : Nat) : Int)) (-1) := by
    have e1 : ((n : Int) - 1) + ((0 : Nat) : Int) * (-1) = (n : Int) - 1 := by simp
    have e2 : (n : Int) - ((0 : Nat) : Int) = n := by simp
    rw [e1, e2]
    exact Heap.get?_push_size _ rfl
  refine wpAny_pyIter_rangeiter st ⟨_, [(s1.heap.push { cls := .type "range", data := .fields #[.int 0 s1.toks, .int n t, .int 1 (s1.toks + 1)] }).objs.size], _, _, H1, rfl, I2.kept (t' := s1.toks + 1 + 1) fun b o e => Heap.get?_push_of_some _ e, turn_revR _ n, st, fun b hb => ?_, k⟩
  have e : b = (s1.heap.push { cls := .type "range", data := .fields #[.int 0 s1.toks, .int n t, .int 1 (s1.toks + 1)] }).objs.size := by simpa using hb
  subst e
  exact I2.fpOk (Nat.le_refl _) (I2.hok.fresh (Nat.le_refl _))
theorem qi_revR (hc : X.calm = true) (g1 : Gl X "reversed") (m1 : X.mg "reversed" = none) (g2 : Gl X "range") (m2 : X.mg "range" = none) (he : QE X e te)
    (hs2 : starEach [e] X.env = [(false, eval e X.env)] := by rfl) (hs1 : starEach [.Call (.Name "range" p2) [e] [] q2] X.env = [(false, eval (.Call (.Name "range" p2) [e] [] q2) X.env)] := by rfl) :
    QI X tg (.Call (.Name "reversed" p1) [.Call (.Name "range" p2) [e] [] q2] [] q1) (iRevR te) := ⟨pi_revR hc g1 m1 g2 m2 he.h hs2 hs1⟩
theorem for_revR {n : Nat} {g : TG} {tb : TS} {D : Ends} {σ : St} {H : Hp} (Pv : Nat → St → Hp → Prop) (h0 : Pv 0 σ H)
    (hs : ∀ i σ H, i < n → Pv i σ H → g (.int ((n : Int) - 1 - (i : Nat))) σ H fun σ2 H2 => tb { D with nx := Pv (i + 1), ct := Pv (i + 1), bk := D.nx } σ2 H2) (hd : ∀ σ H, Pv n σ H → D.nx σ H) :
    ∃ W : Nat → Nat → St → Hp → Prop, (∃ m, W 0 m σ H) ∧ ∀ i m σ H, W i m σ H →
      ((ItRR n).stop i H ∧ D.nx σ H) ∨ ((ItRR n).go i H ∧ ∃ N : St → Hp → Prop, (∀ σ' H', N σ' H' → ∃ m', m' < m ∧ W (i + 1) m' σ' H') ∧ ∀ x H', (ItRR n).yld i H x H' → g x σ H' fun σ2 H2 => tb { D with nx := N, ct := N, bk := D.nx } σ2 H2) := by
  refine ⟨fun i m σ H => m = n - i ∧ i ≤ n ∧ Pv i σ H, ⟨n, by simp, Nat.zero_le _, h0⟩, ?_⟩
  rintro i m σ H ⟨rfl, hi, p⟩
  by_cases hlt : i < n
  · refine .inr ⟨hlt, Pv (i + 1), fun σ' H' q => ⟨n - (i + 1), by omega, rfl, hlt, q⟩, ?_⟩
    rintro x H' ⟨rfl, rfl⟩
    exact hs i σ H' hlt p
  · have e : i = n := by omega
    subst e
    exact .inl ⟨Nat.le_refl _, hd σ H p⟩
end
end L2
set_option Elab.async false
set_option linter.all false
set_option maxRecDepth 100000
set_option maxHeartbeats 4000000
namespace L2
open PySem PySem.Spec PyProof.Rows
def exT (K : PySem.W.Frag) (Dc : Addr) (i : Nat) (ts : TS) (D : Ends) (σ : St) : XK := fun cls _ H2 => ∃ C, cls = .ref C ∧ ExcC K C ∧ PySem.W.mroIn K C (.ref Dc) = some true ∧
  ∀ a, H2 a = none → ts { nx := fun σ' H' => D.nx (σ'.set i none) H', rt := fun _ _ => False, bk := fun _ _ => False, ct := fun _ _ => False } (σ.set i (some (.ref a))) (upd H2 a (excO a C))
section
variable {X : Cx} {Dc : Addr} {dn n : Str} {i : Nat} {np hpos : Pos} {ts : TS} {b0 : Stmt} {suite : List Stmt} {pins : List (Addr × Obj)} {σ : St} {H1 : Hp} {s1 s' : Shared} {D : Ends} {ev : Value} {Q : Flow → Shared → Prop}
theorem try_err (I1 : Inv X pins σ H1 s1) (hq : CXe X.prog X.w X.stack H1 s1 (exT X.K Dc i ts D σ) ev s') (hQ : ∀ σ' H' s'', Inv X pins σ' H' s'' → D.nx σ' H' → Q .next s'')
    (hgD : Gl X dn) (hmD : X.mg dn = some (.ref Dc)) (hD : ExcC X.K Dc) (hN : X.N.Nodup) (hi : X.N[i]? = some n) (hn : X.env.scope.names.lookup n = some .local) (hstk : X.stack = X.env :: X.outer) (hfr : X.env.frame = some X.env.locals) (hex : X.ex = [])
    (hs : ∀ a, PSs (X.hand a) (b0 :: suite) ts) (hdd : (dn == ("__debug__" : Str)) = false) :
    wpAny (model X.prog X.w) X.A (noteFrame ev X.env) (fun _ s₂ => wpAny (model X.prog X.w) X.A (setFlight ev none) (fun _ s₃ => wpAny (model X.prog X.w) X.A (handleBy ev X.env [.ExceptHandler (some (.Name dn np)) (some n) (b0 :: suite) hpos]) Q X.xe s₃) X.xe s₂) X.xe s' := by
  have I := I1
  obtain ⟨a, cls, H2, rfl, x, C, rfl, hC, hmro, q2⟩ := hq
  obtain ⟨B, a0, fly, big⟩ := x.fly
  have hfrm : X.A.frames = some (X.env :: X.outer) := by rw [← hstk]; exact I.ok.frames
  rw [hstk] at fly
  -- all states on the way are like s' but for frames' slots and the exception's own records
  have keep : ∀ h6 : Heap, B.StaysIn h6 → s'.heap.UpToSlots h6 → ∀ tk : Nat, Inv X pins σ H2 { s' with heap := h6, toks := tk } := fun h6 st up tk => by
    have slots : ∀ b o, s'.heap.get? b = some o → b ∈ frs X.stack → ∃ sl, h6.get? b = some { o with slots := sl } := fun b o e hb => by
      rw [hstk] at hb
      obtain ⟨_, o', e', nf⟩ := fly.2.2.1.mem hb
      rw [e] at e'
      cases e'
      exact up b o e nf
    have hfree' : ∀ b ∈ frs X.stack, H2 b = none := fun b hb => by
      obtain ⟨_, o, e, _⟩ := I1.stack.mem hb
      exact x.un.free b o e (I1.stkFree b hb) (by simp)
    refine I1.call' (ch := []) x.os (x.un.fly (fun b hb => .inl hb) st (fun b o e n hb => big b o hb n e) slots fun b hb => hb) (x.hok.fly hfree' st (fun b o e n hb => big b o (.inl hb) n e)) x.bare (fun b z => absurd z (by simp))
  refine wpAny_looks_onW hfrm hfr fly fun h4 held4 sm4 => wpAny_landsW held4 fun h5 fl5 sm5 => ?_
  have I5 := keep h5 fl5.1 (sm4.trans sm5) s'.toks
  obtain ⟨oe, hoe, hoc⟩ := fl5.there
  refine wpAny_handleBy_cons (codeAny_handlers_test (ld_glob (I5.hand a) hgD hmD (excMatches_own (K := X.K) I5.kIn hC hD hoe hoc hmro ?_) hdd)) (by intro z; cases z)
  refine codeAny_handlers_suite_as (lands_againW fl5 fun h6 fl6 sm6 => ?_)
  have I6 := keep h6 fl6.1 ((sm4.trans sm5).trans sm6) s'.toks
  obtain ⟨oe6, hoe6, hoc6⟩ := fl6.there
  have hnew1 : s1.heap.get? a = none := x.new
  have I7 : Inv X pins σ (upd H2 a (excO a C)) { s' with heap := h6 } := by
    refine I6.track x.free (fun u z => ?_) ⟨⟨oe6, hoe6, hoc6⟩, ⟨oe6, hoe6⟩, fun h1 h2 ⟨o, e1, e2⟩ st => ⟨o, st o e1, e2⟩⟩ (fun z => ?_) (fun y c e z => ?_) (fun p hp z => ?_)
    · obtain ⟨o', e1⟩ := I1.base.there a u z (by rw [hex]; simp)
      rw [hnew1] at e1
      cases e1
    · obtain ⟨m, hns, _⟩ := I1.loc
      obtain ⟨oL, _, _, hoL, _⟩ := hns
      rw [← z, hnew1] at hoL
      cases hoL
    · obtain ⟨v, oc, hoc', _⟩ := I1.cell y c e
      rw [z, hnew1] at hoc'
      cases hoc'
    · obtain ⟨e1, _⟩ := I1.pin p hp
      rw [z, hnew1] at e1
      cases e1
  refine store_ok (X := X.hand a) (v := .ref a) (I7.hand a) hN hi (.inl hn) rfl (fun s7 I8 => ?_) (.inr hn)
  refine wpAny_mono (hs a pins s7 _ _ _ I8 (q2 a x.free)) (fun fw s8 hfw => ?_) fun _ _ z => z.elim
  cases fw with
  | next =>
    obtain ⟨σ', H9, I9, q9⟩ := hfw
    have I9' := I9.unhand I.ok
    obtain ⟨m, hns, hloc⟩ := I9'.loc
    refine wpAny_nameGoes_keeps hn hns (by rw [I.ok.kind]; rfl) fun h10 v hn10 hs10 => ?_
    exact hQ _ _ _ (I9'.gone hN hi hns hloc hn10 hs10) q9
  | ret u =>
    obtain ⟨_, _, _, _, _, z⟩ := hfw
    exact z.elim
  | brk =>
    obtain ⟨_, _, _, z⟩ := hfw
    exact z.elim
  | cont =>
    obtain ⟨_, _, _, z⟩ := hfw
    exact z.elim
variable {k : Nat} {f : Addr} {fd : FuncData} {ps : List Str} {sp : Sp} {x : Str} {p cpos epos : Pos} {e : Expr} {es : List Expr} {t : TA} {EX : XK} {N : Hp → Prop} {H : Hp} {s : Shared}
theorem call_part (F : FnOk X.prog X.w X.K X.mg X.base (CXe X.prog X.w) k f fd ps sp) (hr : Room k X.A) (hg : Gl X x) (hm : X.mg x = some (.ref f)) (hk : PySem.W.keepIn X.K (.ref f) = true) (hb : Binds X.K fd ps [])
    (ha : PA X.nox (e :: es) t) (I : Inv X pins σ H s) (h : t σ H fun vs H1 => sp vs H1 (fun _ H2 => N H2) EX)
    (hdb : (x == ("__debug__" : Str)) = false := by decide) (he : starEach (e :: es) X.env = (false, eval e X.env) :: starEach es X.env := by rfl) (hpl : (backTo cpos (starEach es X.env)).any (·.1) = false := by rfl)
    (hsw : swapsWith (.Call (.Name x p) (e :: es) [] cpos) none epos.line X.env = pure false := by rfl) :
    wpAny (model X.prog X.w) X.A (execs [.Expr (.Call (.Name x p) (e :: es) [] cpos) epos] X.env) (fun fl s' => fl = .next ∧ ∃ H2, Inv X pins σ H2 s' ∧ N H2) (fun ev s' => ∃ H1 s1, Inv X pins σ H1 s1 ∧ CXe X.prog X.w X.stack H1 s1 EX ev s') s := by
  refine wpAny_execs_cons (wpAny_Expr_any (wpAny_Call_Name_kw (ld_glob I hg hm ?_ hdb)) I.quiet hsw)
  refine PySem.W.callWith_K (h₀ := X.base) I.ok.mod.kin hk (wpAny_mono (ha cpos pins s σ H _ (I.wish _) h) (fun us s1 ⟨vs, H1, I1n, r, q⟩ => ⟨I1n.kIn, ?_⟩) fun _ _ z => z.elim) he hpl
  have I1 : Inv X pins σ H1 s1 := I1n.unwish
  have hl : (us ++ []).length = ps.length := by rw [List.append_nil, ← r.length]; exact F.len _ _ _ _ q
  have hbb := hb s1 us I1.kIn hl
  rw [List.append_nil] at hbb
  refine wpAny_call (codeAny_mono (F.run X.A X.stack s1 H1 ⟨us, []⟩ us vs _ _ hr I1.env0 hbb r q) fun res s' hq => ?_)
  cases res with
  | ok fl =>
    cases fl with
    | ret u =>
      obtain ⟨v, H2, I2, _, q2⟩ := I1.after hq
      exact wpAny_execs_nil ⟨rfl, H2, I2, q2⟩
    | next => exact False.elim hq
    | brk => exact False.elim hq
    | cont => exact False.elim hq
  | error ev => exact ⟨H1, s1, I1, hq⟩
end
def tTryIf (K : PySem.W.Frag) (Dc : Addr) (i : Nat) (tc : TT) (sp1 sp2 : Sp) (t1 t2 : TA) (ts : TS) : TS := fun D σ H => tc σ H fun b H0 =>
  if b = true then t1 σ H0 fun vs H1 => sp1 vs H1 (fun _ H2 => D.nx σ H2) (exT K Dc i ts D σ) else t2 σ H0 fun vs H1 => sp2 vs H1 (fun _ H2 => D.nx σ H2) (exT K Dc i ts D σ)
section
variable {X : Cx} {Dc : Addr} {dn n : Str} {i : Nat} {np hpos pos ipos : Pos} {ts : TS} {b0 : Stmt} {suite : List Stmt} {c : Expr} {tc : TT}
  {k1 k2 : Nat} {f1 f2 : Addr} {fd1 fd2 : FuncData} {ps1 ps2 : List Str} {sp1 sp2 : Sp} {x1 x2 : Str} {p1 p2 c1 c2 q1 q2 : Pos} {e1 e2 : Expr} {es1 es2 : List Expr} {t1 t2 : TA}
theorem qs_tryIf (hc : QT X.nox c tc) (F1 : FnOk X.prog X.w X.K X.mg X.base (CXe X.prog X.w) k1 f1 fd1 ps1 sp1) (hr1 : Room k1 X.A) (hg1 : Gl X x1) (hm1 : X.mg x1 = some (.ref f1)) (hk1 : PySem.W.keepIn X.K (.ref f1) = true) (hb1 : Binds X.K fd1 ps1 []) (ha1 : QA X.nox (e1 :: es1) t1)
    (F2 : FnOk X.prog X.w X.K X.mg X.base (CXe X.prog X.w) k2 f2 fd2 ps2 sp2) (hr2 : Room k2 X.A) (hg2 : Gl X x2) (hm2 : X.mg x2 = some (.ref f2)) (hk2 : PySem.W.keepIn X.K (.ref f2) = true) (hb2 : Binds X.K fd2 ps2 []) (ha2 : QA X.nox (e2 :: es2) t2)
    (hgD : Gl X dn) (hmD : X.mg dn = some (.ref Dc)) (hD : ExcC X.K Dc) (hN : X.N.Nodup) (hi : X.N[i]? = some n) (hn : X.env.scope.names.lookup n = some .local) (hstk : X.stack = X.env :: X.outer) (hfr : X.env.frame = some X.env.locals) (hex : X.ex = [])
    (hs : ∀ a, QSs (X.hand a) (b0 :: suite) ts)
    (hd1 : (x1 == ("__debug__" : Str)) = false := by decide) (hd2 : (x2 == ("__debug__" : Str)) = false := by decide) (hdd : (dn == ("__debug__" : Str)) = false := by decide)
    (he1 : starEach (e1 :: es1) X.env = (false, eval e1 X.env) :: starEach es1 X.env := by rfl) (hpl1 : (backTo c1 (starEach es1 X.env)).any (·.1) = false := by rfl) (hsw1 : swapsWith (.Call (.Name x1 p1) (e1 :: es1) [] c1) none q1.line X.env = pure false := by rfl)
    (he2 : starEach (e2 :: es2) X.env = (false, eval e2 X.env) :: starEach es2 X.env := by rfl) (hpl2 : (backTo c2 (starEach es2 X.env)).any (·.1) = false := by rfl) (hsw2 : swapsWith (.Call (.Name x2 p2) (e2 :: es2) [] c2) none q2.line X.env = pure false := by rfl) :
    QS X (.Try [.If c [.Expr (.Call (.Name x1 p1) (e1 :: es1) [] c1) q1] [.Expr (.Call (.Name x2 p2) (e2 :: es2) [] c2) q2] ipos] [.ExceptHandler (some (.Name dn np)) (some n) (b0 :: suite) hpos] [] [] pos) (tTryIf X.K Dc i tc sp1 sp2 t1 t2 ts) := ⟨by
  intro pins s σ H D I h
  refine wpAny_Try_except (wpAny_execs_cons (wpAny_If (wpAny_mono (hc.h pins s σ H _ (I.wish _) h) (fun d s1 ⟨H1, I1n, q1⟩ => ?_) fun _ _ z => z.elim)))
  have I1 : Inv X pins σ H1 s1 := I1n.unwish
  cases d with
  | true =>
    refine wpAny_mono (call_part (N := fun H2 => D.nx σ H2) F1 hr1 hg1 hm1 hk1 hb1 ha1.h I1 q1 hd1 he1 hpl1 hsw1) (fun fl s2 hfl => ?_) (fun ev s2 hev => ?_)
    · obtain ⟨rfl, H2, I2, q2⟩ := hfl
      exact wpAny_execs_nil (wpAny_execs_nil ⟨σ, H2, I2, q2⟩)
    · obtain ⟨H3, s3, I3, hq⟩ := hev
      exact try_err I3 hq (fun σ' H' s'' I' q' => ⟨σ', H', I', q'⟩) hgD hmD hD hN hi hn hstk hfr hex (fun a => (hs a).h) hdd
  | false =>
    refine wpAny_mono (call_part (N := fun H2 => D.nx σ H2) F2 hr2 hg2 hm2 hk2 hb2 ha2.h I1 q1 hd2 he2 hpl2 hsw2) (fun fl s2 hfl => ?_) (fun ev s2 hev => ?_)
    · obtain ⟨rfl, H2, I2, q2⟩ := hfl
      exact wpAny_execs_nil (wpAny_execs_nil ⟨σ, H2, I2, q2⟩)
    · obtain ⟨H3, s3, I3, hq⟩ := hev
      exact try_err I3 hq (fun σ' H' s'' I' q' => ⟨σ', H', I', q'⟩) hgD hmD hD hN hi hn hstk hfr hex (fun a => (hs a).h) hdd⟩
end
end L2
set_option Elab.async false
set_option linter.all false
set_option maxRecDepth 100000
set_option maxHeartbeats 4000000
namespace L2
open PySem PySem.Spec PyProof.Rows
section
variable {prog : Program} {w : World} {A : Around} {E : Value → Shared → Prop} {s : Shared}
theorem tupNext_yes {it t : Addr} {i : Nat} {vs : Array Value} {x : Value} {Q : Value → Shared → Prop} (hi : s.heap.IsTupleIter it t i) (ht : s.heap.IsTuple t vs) (hx : vs[i]? = some x)
    (q : ∀ h', h'.IsTupleIter it t (i + 1) → Heap.SameBut it s.heap h' → Q x { s with heap := h' }) : wpAny (model prog w) A (Builtin.SmallTypes.nextOf (.ref it)) Q E s := by
  obtain ⟨o, ho, hc, hd⟩ := id hi
  obtain ⟨ot, hot, _, nt, hdt⟩ := ht
  unfold Builtin.SmallTypes.nextOf
  refine wpAny_bind (wpAny_callSpecial?_slot (name := Str.ofString "__next__") hi.typeIs F.slot_tuple_iterator_next (wpAny_call_entry F.slot_tuple_iterator_next hi.typeIs F.entry_tuple_iterator_next ?_ (F.args_tuple_iterator_next_1 _)))
  show wpAny _ _ (field (.ref it) 0 >>= _) _ _ s
  refine wpAny_bind (wpAny_field ho hd (x := .ref t) rfl (show wpAny _ _ (if (Value.ref t == Value.none) = true then _ else _) _ _ s from ?_))
  rw [if_neg (show ¬ ((Value.ref t == Value.none) = true) from Bool.false_ne_true)]
  show wpAny _ _ (field (.ref it) 1 >>= _) _ _ s
  refine wpAny_bind (wpAny_field ho hd (x := .int i 0) rfl (show wpAny _ _ (seqItems? (.ref t) >>= _) _ _ s from wpAny_bind (wpAny_seqItems hot hdt ?_)))
  simp only [Int.toNat_natCast, hx]
  refine wpAny_bind (wpAny_setField ho hd (by simp) (wpAny_pure ⟨x, rfl, wpAny_pure (q _ ⟨_, Heap.get?_update_self _ ho (Obj.isFreed_of_fields (Obj.data_mapFields hd _)), (Obj.cls_mapFields ..).trans hc, ?_⟩ (Heap.SameBut.update ..))⟩))
  rw [Obj.data_mapFields hd]
  simp [rawInt]
theorem tupNext_no {it t : Addr} {i : Nat} {vs : Array Value} {Q : Value → Shared → Prop} (hh : A.handled = none) (hi : s.heap.IsTupleIter it t i) (ht : s.heap.IsTuple t vs) (hx : vs[i]? = none)
    (q : ∀ h' e, Heap.ExtBut it s.heap h' → (∃ o, h'.get? e = some o ∧ o.cls = .type "StopIteration") → E (.ref e) { s with heap := h' }) : wpAny (model prog w) A (Builtin.SmallTypes.nextOf (.ref it)) Q E s := by
  obtain ⟨o, ho, hc, hd⟩ := id hi
  obtain ⟨ot, hot, _, nt, hdt⟩ := ht
  unfold Builtin.SmallTypes.nextOf
  refine wpAny_bind (wpAny_callSpecial?_slot (name := Str.ofString "__next__") hi.typeIs F.slot_tuple_iterator_next (wpAny_call_entry F.slot_tuple_iterator_next hi.typeIs F.entry_tuple_iterator_next ?_ (F.args_tuple_iterator_next_1 _)))
  show wpAny _ _ (field (.ref it) 0 >>= _) _ _ s
  refine wpAny_bind (wpAny_field ho hd (x := .ref t) rfl (show wpAny _ _ (if (Value.ref t == Value.none) = true then _ else _) _ _ s from ?_))
  rw [if_neg (show ¬ ((Value.ref t == Value.none) = true) from Bool.false_ne_true)]
  show wpAny _ _ (field (.ref it) 1 >>= _) _ _ s
  refine wpAny_bind (wpAny_field ho hd (x := .int i 0) rfl (show wpAny _ _ (seqItems? (.ref t) >>= _) _ _ s from wpAny_bind (wpAny_seqItems hot hdt ?_)))
  simp only [Int.toNat_natCast, hx]
  refine wpAny_bind (wpAny_rule (wpAny_bind (wpAny_setField ho hd (by simp) (show wpAny _ _ (newExc (.type "StopIteration") [] >>= _) _ _ _ from wpAny_bind ?_))))
  simp only [newExc, newTuple]
  refine wpAny_bind (wpAny_newObj_type (wpAny_bind (m := firstArgMember _ _) (wpAny_of_eq (a := Value.none) (by first | rfl | (simp only [firstArgMember]; rfl)) (wpAny_newObj_type ?_ (by size_fits)))) (by size_fits))
  simp only [raiseNew]
  refine wpAny_bind (wpAny_handled ?_)
  first | rw [show A.in1.handled = none from hh] | rw [hh]
  exact wpAny_bind (wpAny_pure (wpAny_throw (q _ _ (((Heap.SameBut.update ..).extBut.push _).push _) ⟨_, Heap.get?_push_size _ rfl, rfl⟩)))
structure ZAp (z TI TO i1 i2 t1 t2 : Addr) : Prop where
  a1 : TI ≠ z
  a2 : TO ≠ z
  a3 : i1 ≠ z
  a4 : i2 ≠ z
  a5 : TI ≠ TO
  a6 : TI ≠ i1
  a7 : TI ≠ i2
  a8 : TO ≠ i1
  a9 : TO ≠ i2
  b1 : i1 ≠ i2
  c1 : t1 ≠ z
  c2 : t1 ≠ TO
  c3 : t1 ≠ i1
  c4 : t1 ≠ i2
  d1 : t2 ≠ z
  d2 : t2 ≠ TO
  d3 : t2 ≠ i1
  d4 : t2 ≠ i2
structure ZSt (h : Heap) (z TI TO i1 i2 t1 t2 : Addr) (k : Nat) (vs us : Array Value) (f : Value) : Prop where
  zz : IsZip h z TI TO f
  ti : IsPair h TI (.ref i1) (.ref i2)
  to : ∃ a b, IsPair h TO a b
  n1 : h.IsTupleIter i1 t1 k
  n2 : h.IsTupleIter i2 t2 k
  g1 : h.IsTuple t1 vs
  g2 : h.IsTuple t2 us
theorem ndA {a b : Nat} (h : a < b ∨ b < a) : a ≠ b := by omega
theorem itAt {h h' : Heap} {it t : Addr} {i : Nat} (x : h.IsTupleIter it t i) (k : ∀ o, h.get? it = some o → h'.get? it = some o) : h'.IsTupleIter it t i := let ⟨o, ho, r⟩ := x; ⟨o, k o ho, r⟩
theorem tpAt {h h' : Heap} {t : Addr} {vs : Array Value} (x : h.IsTuple t vs) (k : ∀ o, h.get? t = some o → h'.get? t = some o) : h'.IsTuple t vs := let ⟨o, ho, r⟩ := x; ⟨o, k o ho, r⟩
theorem zipNext_yes {z TI TO i1 i2 t1 t2 : Addr} {k : Nat} {vs us : Array Value} {x y : Value} {Q : Option Value → Shared → Prop} (D : ZAp z TI TO i1 i2 t1 t2) (S : ZSt s.heap z TI TO i1 i2 t1 t2 k vs us .none) (hx : vs[k]? = some x) (hy : us[k]? = some y)
    (q : ∀ h', ZSt h' z TI TO i1 i2 t1 t2 (k + 1) vs us (rawInt s.heap.objs.size) → IsPair h' s.heap.objs.size x y → (∀ c o, c ≠ z → c ≠ TO → c ≠ i1 → c ≠ i2 → s.heap.get? c = some o → h'.get? c = some o) → Q (some (.ref s.heap.objs.size)) { s with heap := h' }) :
    wpAny (model prog w) A (pyNext (.ref z)) Q E s := by
  obtain ⟨zz, ti, ⟨a, b, to⟩, n1, n2, g1, g2⟩ := S
  have ty : s.TypeIs (.ref z) "zip" := ⟨_, zz, rfl⟩
  unfold pyNext
  refine wpAny_bind (wpAny_attempt (wpAny_callSpecial?_slot (name := Str.ofString "__next__") ty F.slot_zip_next (wpAny_call_entry F.slot_zip_next ty F.entry_zip_next ?_ (F.args_zip_next_1 _))))
  show wpAny _ _ (field (.ref z) 2 >>= _) _ _ _
  refine wpAny_bind (wpAny_field zz rfl (x := .bool false) rfl (show wpAny _ _ (field (.ref z) 3 >>= _) _ _ _ from wpAny_bind (wpAny_field zz rfl (x := .ref TI) rfl (wpAny_bind (wpAny_seqItems ti rfl ?_)))))
  refine wpAny_bind (show wpAny _ _ (Builtin.SmallTypes.ownedTupleIsFree (.ref z)) _ _ _ from ?_)
  unfold Builtin.SmallTypes.ownedTupleIsFree
  refine wpAny_bind (wpAny_field zz rfl (x := .none) rfl (wpAny_pure ?_))
  simp only [if_true]
  refine wpAny_bind (wpAny_rule (wpAny_bind (wpAny_field zz rfl (x := .ref TO) rfl (wpAny_bind (wpAny_setField_rec zz (by simp) fun u1 z1 k1 => ?_)))))
  have e1 : ∀ c o, c ≠ z → s.heap.get? c = some o → u1.get? c = some o := k1.extBut
  have m1 : u1.objs.size = s.heap.objs.size := k1.1
  refine wpAny_bind ?_
  simp only [List.zipIdx_nil, List.zipIdx_cons, List.forIn_nil, List.forIn_cons]
  -- the first one
  refine wpAny_bind (wpAny_bind (wpAny_onRaise (show wpAny _ _ (Builtin.SmallTypes.nextOf (.ref i1) >>= _) _ _ _ from wpAny_bind (tupNext_yes (itAt n1 fun o => e1 i1 o D.a3) (tpAt g1 fun o => e1 t1 o D.c1) hx fun u2 j1 k2 => wpAny_pure ?_))))
  have e2 : ∀ c o, c ≠ z → c ≠ i1 → s.heap.get? c = some o → u2.get? c = some o := fun c o h1 h2 e => k2.extBut c o h2 (e1 c o h1 e)
  have z2 := k2.extBut _ _ D.a3.symm z1
  have to2 : IsPair u2 TO a b := e2 _ _ D.a2 D.a8 to
  refine wpAny_bind (wpAny_seqItems to2 rfl (wpAny_bind (wpAny_updateSeq_pair to2 fun u3 to3 k3 => wpAny_bind (wpAny_letGo (wpAny_pure ?_)))))
  have to3' : IsPair u3 TO x b := to3
  have e3 : ∀ c o, c ≠ z → c ≠ i1 → c ≠ TO → s.heap.get? c = some o → u3.get? c = some o := fun c o h1 h2 h3 e => k3.extBut c o h3 (e2 c o h1 h2 e)
  have z3 := k3.extBut _ _ D.a2.symm z2
  -- the second one
  refine wpAny_bind (wpAny_bind (wpAny_onRaise (show wpAny _ _ (Builtin.SmallTypes.nextOf (.ref i2) >>= _) _ _ _ from wpAny_bind (tupNext_yes (itAt n2 fun o => e3 i2 o D.a4 D.b1.symm D.a9.symm) (tpAt g2 fun o => e3 t2 o D.d1 D.d3 D.d2) hy fun u4 j2 k4 => wpAny_pure ?_))))
  have to4 : IsPair u4 TO x b := k4.extBut _ _ D.a9 to3'
  refine wpAny_bind (wpAny_seqItems to4 rfl (wpAny_bind (wpAny_updateSeq_pair to4 fun u5 to5 k5 => wpAny_bind (wpAny_letGo (wpAny_pure (wpAny_pure ?_))))))
  have to5' : IsPair u5 TO x y := to5
  have e5 : ∀ c o, c ≠ z → c ≠ i1 → c ≠ TO → c ≠ i2 → s.heap.get? c = some o → u5.get? c = some o := fun c o h1 h2 h3 h4 e => k5.extBut c o h3 (k4.extBut c o h4 (e3 c o h1 h2 h3 e))
  have z5 := k5.extBut _ _ D.a2.symm (k4.extBut _ _ D.a4.symm z3)
  have m5 : u5.objs.size = s.heap.objs.size := by rw [k5.1, k4.1, k3.1, k2.1, m1]
  have lz : z < s.heap.objs.size := Heap.lt_size zz
  -- the new pair
  refine wpAny_bind (wpAny_seqItems to5' rfl (wpAny_bind (wpAny_newTuple ?_)))
  refine wpAny_bind (show wpAny _ _ (Builtin.SmallTypes.ownedTupleHandOut (.ref z) (.ref u5.objs.size)) _ _ _ from ?_)
  unfold Builtin.SmallTypes.ownedTupleHandOut
  have z6 := Heap.get?_push_of_some { cls := .type "tuple", data := .seq #[x, y] } z5
  refine wpAny_bind (wpAny_setField_rec z6 (by simp) fun u7 z7 k7 => wpAny_setField_rec z7 (by simp) fun u8 z8 k8 => wpAny_pure ⟨_, rfl, ?_⟩)
  have e8 : ∀ c o, c ≠ z → u5.get? c = some o → u8.get? c = some o := fun c o h e => k8.extBut c o h (k7.extBut c o h (Heap.get?_push_of_some _ e))
  have p8 : IsPair u8 u5.objs.size x y := k8.extBut _ _ (by rw [m5]; exact Nat.ne_of_gt lz) (k7.extBut _ _ (by rw [m5]; exact Nat.ne_of_gt lz) (Heap.get?_push_size _ rfl))
  refine wpAny_pure ?_
  show Q (some (.ref u5.objs.size)) { s with heap := u8 }
  have z8' : IsZip u8 z TI TO (rawInt u5.objs.size) := z8
  rw [m5] at p8 z8' ⊢
  refine q u8 ⟨z8', e8 _ _ D.a1 (e5 _ _ D.a1 D.a6 D.a5 D.a7 ti), ⟨x, y, e8 _ _ D.a2 to5'⟩, ?_, ?_, tpAt g1 fun o e => e8 _ _ D.c1 (e5 _ _ D.c1 D.c3 D.c2 D.c4 e), tpAt g2 fun o e => e8 _ _ D.d1 (e5 _ _ D.d1 D.d3 D.d2 D.d4 e)⟩ p8 fun c o h1 h2 h3 h4 e => e8 c o h1 (e5 c o h1 h3 h2 h4 e)
  · exact itAt j1 fun o e => e8 _ _ D.a3 (k5.extBut _ _ D.a8.symm (k4.extBut _ _ D.b1 (k3.extBut _ _ D.a8.symm e)))
  · exact itAt j2 fun o e => e8 _ _ D.a4 (k5.extBut _ _ D.a9.symm e)
theorem zipNext_no {z TI TO i1 i2 t1 t2 : Addr} {k : Nat} {vs us : Array Value} {Q : Option Value → Shared → Prop} (hh : A.handled = none) (D : ZAp z TI TO i1 i2 t1 t2) (S : ZSt s.heap z TI TO i1 i2 t1 t2 k vs us .none) (hx : vs[k]? = none)
    (q : ∀ h', (∀ c o, c ≠ z → c ≠ TO → c ≠ i1 → c ≠ i2 → s.heap.get? c = some o → h'.get? c = some o) → Q none { s with heap := h' }) : wpAny (model prog w) A (pyNext (.ref z)) Q E s := by
  obtain ⟨zz, ti, ⟨a, b, to⟩, n1, n2, g1, g2⟩ := S
  have ty : s.TypeIs (.ref z) "zip" := ⟨_, zz, rfl⟩
  unfold pyNext
  refine wpAny_bind (wpAny_attempt (wpAny_callSpecial?_slot (name := Str.ofString "__next__") ty F.slot_zip_next (wpAny_call_entry F.slot_zip_next ty F.entry_zip_next ?_ (F.args_zip_next_1 _))))
  show wpAny _ _ (field (.ref z) 2 >>= _) _ _ _
  refine wpAny_bind (wpAny_field zz rfl (x := .bool false) rfl (show wpAny _ _ (field (.ref z) 3 >>= _) _ _ _ from wpAny_bind (wpAny_field zz rfl (x := .ref TI) rfl (wpAny_bind (wpAny_seqItems ti rfl ?_)))))
  refine wpAny_bind (show wpAny _ _ (Builtin.SmallTypes.ownedTupleIsFree (.ref z)) _ _ _ from ?_)
  unfold Builtin.SmallTypes.ownedTupleIsFree
  refine wpAny_bind (wpAny_field zz rfl (x := .none) rfl (wpAny_pure ?_))
  simp only [if_true]
  refine wpAny_bind (wpAny_rule (wpAny_bind (wpAny_field zz rfl (x := .ref TO) rfl (wpAny_bind (wpAny_setField_rec zz (by simp) fun u1 z1 k1 => ?_)))))
  refine wpAny_bind ?_
  simp only [List.zipIdx_nil, List.zipIdx_cons, List.forIn_nil, List.forIn_cons]
  refine wpAny_bind (wpAny_bind (wpAny_onRaise (show wpAny _ _ (Builtin.SmallTypes.nextOf (.ref i1) >>= _) _ _ _ from wpAny_bind (tupNext_no hh (itAt n1 fun o => k1.extBut i1 o D.a3) (tpAt g1 fun o => k1.extBut t1 o D.c1) hx fun u2 e k2 he => ?_))))
  obtain ⟨oe, hoe, hce⟩ := he
  have z2 := k2 _ _ D.a3.symm z1
  have nz : e ≠ z := fun c => by
    subst c
    rw [z2] at hoe
    cases hoe
    simp at hce
  refine wpAny_setField_rec z2 (by simp) fun u3 _ k3 => ?_
  refine wpAny_bind (wpAny_isInstance (T := "StopIteration") (b := true) ⟨oe, k3.extBut _ _ nz hoe, hce⟩ isSubtype_stop (wpAny_pure (q u3 fun c o h1 _ h3 _ e => k3.extBut _ _ h1 (k2 _ _ h3 (k1.extBut _ _ h1 e)))))
theorem zipMake (l1 l2 : Addr) (vs us : Array Value) :
    Meets (Builtin.«zip.__new__» ⟨[.type "zip", .ref l1, .ref l2], []⟩) (fun _ R s => s.heap.IsTuple l1 vs ∧ s.heap.IsTuple l2 us ∧
      ∀ h0 h1 h2 h3 h4 h5, h0 = s.heap → h1 = h0.push { cls := .type "tuple_iterator", data := .fields #[.ref l1, .int 0 0] } → h2 = h1.push { cls := .type "tuple_iterator", data := .fields #[.ref l2, .int 0 0] } → h3 = h2.push { cls := .type "tuple", data := .seq #[.ref h0.objs.size, .ref h1.objs.size] } →
        h4 = h3.push { cls := .type "tuple", data := .seq #[.none, .none] } → h5 = h4.push { cls := .type "zip", data := .fields #[.none, .bool false, .bool false, .ref h2.objs.size, .ref h3.objs.size] } → R (.ok (.ret (.ref h4.objs.size))) { s with heap := h5 }) :=
  .of_wp fun prog w A R s h => by
    obtain ⟨hp, g, d, tk, os⟩ := s
    obtain ⟨hl1, hl2, h⟩ := h
    have hsub := sub_zip
    have hL1 : Heap.IsTuple (Shared.heap ⟨hp, g, d, tk, os⟩) l1 vs := hl1
    have hL2 : Heap.IsTuple (Shared.heap ⟨hp.push { cls := .type "tuple_iterator", data := .fields #[.ref l1, .int 0 0] }, g, d, tk, os⟩) l2 us := Heap.IsTuple.push hl2 _
    have h := h _ _ _ _ _ _ rfl rfl rfl rfl rfl rfl
    wp_walk using wpAny_pyIter_tuple hL1, wpAny_pyIter_tuple hL2
    exact ⟨_, rfl, h⟩
theorem zipCall {l1 l2 : Addr} {vs us : Array Value} {Q : Value → Shared → Prop} (g1 : s.heap.IsTuple l1 vs) (g2 : s.heap.IsTuple l2 us)
    (q : ∀ h', ZSt h' (s.heap.objs.size + 4) (s.heap.objs.size + 2) (s.heap.objs.size + 3) s.heap.objs.size (s.heap.objs.size + 1) l1 l2 0 vs us .none → (∀ c o, s.heap.get? c = some o → h'.get? c = some o) → Q (.ref (s.heap.objs.size + 4)) { s with heap := h' }) :
    wpAny (model prog w) A (call (.type "zip") [.ref l1, .ref l2]) Q E s := by
  refine callType_new F.called_zip (by decide) (F.typeCall_zip_2 _ _) (F.newCall_zip_2 _ _) (fun obj => F.args_object_init_3 obj _ _) F.entry_zip_new (zipMake l1 l2 vs us) ⟨g1, g2, fun h0 h1 h2 h3 h4 h5 e0 e1 e2 e3 e4 e5 => ?_⟩
  have s1 : h1.objs.size = h0.objs.size + 1 := by rw [e1]; exact Heap.size_push ..
  have s2 : h2.objs.size = h0.objs.size + 2 := by rw [e2, Heap.size_push, s1]
  have s3 : h3.objs.size = h0.objs.size + 3 := by rw [e3, Heap.size_push, s2]
  have s4 : h4.objs.size = h0.objs.size + 4 := by rw [e4, Heap.size_push, s3]
  have k1 : ∀ c o, h0.get? c = some o → h1.get? c = some o := fun c o e => by rw [e1]; exact Heap.get?_push_of_some _ e
  have k2 : ∀ c o, h1.get? c = some o → h2.get? c = some o := fun c o e => by rw [e2]; exact Heap.get?_push_of_some _ e
  have k3 : ∀ c o, h2.get? c = some o → h3.get? c = some o := fun c o e => by rw [e3]; exact Heap.get?_push_of_some _ e
  have k4 : ∀ c o, h3.get? c = some o → h4.get? c = some o := fun c o e => by rw [e4]; exact Heap.get?_push_of_some _ e
  have k5 : ∀ c o, h4.get? c = some o → h5.get? c = some o := fun c o e => by rw [e5]; exact Heap.get?_push_of_some _ e
  have p5 : h5.get? h4.objs.size = some { cls := .type "zip", data := .fields #[.none, .bool false, .bool false, .ref h2.objs.size, .ref h3.objs.size] } := by rw [e5]; exact Heap.get?_push_size _ rfl
  have p4 : h5.get? h3.objs.size = some { cls := .type "tuple", data := .seq #[.none, .none] } := k5 _ _ (by rw [e4]; exact Heap.get?_push_size _ rfl)
  have p3 : h5.get? h2.objs.size = some { cls := .type "tuple", data := .seq #[.ref h0.objs.size, .ref h1.objs.size] } := k5 _ _ (k4 _ _ (by rw [e3]; exact Heap.get?_push_size _ rfl))
  have p2 : h5.get? h1.objs.size = some { cls := .type "tuple_iterator", data := .fields #[.ref l2, .int 0 0] } := k5 _ _ (k4 _ _ (k3 _ _ (by rw [e2]; exact Heap.get?_push_size _ rfl)))
  have p1 : h5.get? h0.objs.size = some { cls := .type "tuple_iterator", data := .fields #[.ref l1, .int 0 0] } := k5 _ _ (k4 _ _ (k3 _ _ (k2 _ _ (by rw [e1]; exact Heap.get?_push_size _ rfl))))
  have kk : ∀ c o, h0.get? c = some o → h5.get? c = some o := fun c o e => k5 _ _ (k4 _ _ (k3 _ _ (k2 _ _ (k1 _ _ e))))
  rw [s1] at p2 p3
  rw [s2] at p3 p5
  rw [s3] at p4 p5
  rw [s4] at p5 ⊢
  subst e0
  exact ⟨⟨_, p5, rfl⟩, q h5 ⟨p5, p3, ⟨_, _, p4⟩, ⟨_, p1, rfl, rfl⟩, ⟨_, p2, rfl, rfl⟩, tpAt g1 fun o e => kk _ _ e, tpAt g2 fun o e => kk _ _ e⟩ kk⟩
end
def rZip (xs ys : List V) : Nat → List V → Prop := fun i vs => ∃ x y, xs[i]? = some x ∧ ys[i]? = some y ∧ vs = [x, y]
theorem turn_zipT {P : Program} {w : World} {K : PySem.W.Frag} {elts : List Expr} {m : Nat} {pos : Pos} {z TI TO i1 i2 t1 t2 : Addr} {xs ys : List V} (D : ZAp z TI TO i1 i2 t1 t2) (hl : ys.length = xs.length) :
    Turn P w K (.Tuple elts m pos) (ItW xs.length (fun H => SqT K H t1 xs ∧ SqT K H t2 ys) (rZip xs ys)) [z, TI, TO, i1, i2] z (fun i h => IsZip h z TI TO .none ∧ IsPair h TI (.ref i1) (.ref i2) ∧ (∃ a b, IsPair h TO a b) ∧ h.IsTupleIter i1 t1 i ∧ h.IsTupleIter i2 t2 i) where
  mem := by simp
  obj := fun i h ⟨zz, ti, ⟨a, b, to⟩, ⟨o1, h1, c1, d1⟩, ⟨o2, h2, c2, d2⟩⟩ c hc => by
    simp only [List.mem_cons, List.mem_nil_iff, or_false] at hc
    rcases hc with rfl | rfl | rfl | rfl | rfl
    · exact ⟨_, zz, fun v q => by cases q⟩
    · exact ⟨_, ti, fun v q => by cases q⟩
    · exact ⟨_, to, fun v q => by cases q⟩
    · exact ⟨o1, h1, fun v q => by rw [d1] at q; cases q⟩
    · exact ⟨o2, h2, fun v q => by rw [d2] at q; cases q⟩
  keep := fun i h h' ⟨zz, ti, ⟨a, b, to⟩, n1, n2⟩ k => ⟨k z (by simp) _ zz, k TI (by simp) _ ti, ⟨a, b, k TO (by simp) _ to⟩, itAt n1 fun o e => k i1 (by simp) o e, itAt n2 fun o e => k i2 (by simp) o e⟩
  item := by
    intro X hP hw hK hc i pins s σ H E I hf ht hg
    obtain ⟨hi, q1, q2⟩ := hg
    subst hP hw hK
    obtain ⟨vs, r1, p1, _⟩ := I.tuple q1
    obtain ⟨us, r2, p2, _⟩ := I.tuple q2
    obtain ⟨x, hx⟩ := some_of_lt hi
    obtain ⟨y, hy⟩ := some_of_lt (show i < ys.length by rw [hl]; exact hi)
    obtain ⟨x', hx', rx⟩ := r1.get hx
    obtain ⟨y', hy', ry⟩ := r2.get hy
    obtain ⟨zz, ti, to, n1, n2⟩ := ht
    refine zipNext_yes (x := x') (y := y') D ⟨zz, ti, to, n1, n2, p1, p2⟩ (by simpa using hx') (by simpa using hy') fun h1 S1 pr k1 => ?_
    refine ⟨_, rfl, wpAny_letOwnedTupleGo_zip S1.zz fun h2 z2 k2 => ?_⟩
    have lt : ∀ {c : Addr} {o : Obj}, s.heap.get? c = some o → s.heap.objs.size ≠ c := fun e => Nat.ne_of_gt (Heap.lt_size e)
    have e2 : ∀ c o, c ∉ [z, TO, i1, i2] → s.heap.get? c = some o → h2.get? c = some o := fun c o hc e => by
      simp only [List.mem_cons, List.mem_nil_iff, or_false, not_or] at hc
      exact k2.extBut _ _ hc.1 (k1 c o hc.1 hc.2.1 hc.2.2.1 hc.2.2.2 e)
    have tp : IsTup h2 s.heap.objs.size [x', y'].toArray := ⟨_, k2.extBut _ _ (lt zz) pr, rfl, _, rfl⟩
    refine ⟨.ref s.heap.objs.size, upd H s.heap.objs.size (.tup [x, y]), I.turnedT (wr := [z, TO, i1, i2]) e2 (fun b hb => hf b ?_) (Nat.le_refl _) (by show 2 ≤ sizeLine; decide) (.cons rx (.cons ry .nil)) tp, rfl, ⟨_, _, rfl, I.hok.fresh (Nat.le_refl _), ⟨x, y, hx, hy, rfl⟩, rfl⟩, ?_, fun b hb => ?_⟩
    · simp only [List.mem_cons, List.mem_nil_iff, or_false] at hb ⊢
      rcases hb with h | h | h | h
      · exact .inl h
      · exact .inr (.inr (.inl h))
      · exact .inr (.inr (.inr (.inl h)))
      · exact .inr (.inr (.inr (.inr h)))
    · obtain ⟨a, b, to1⟩ := S1.to
      exact ⟨z2, k2.extBut _ _ D.a1 S1.ti, ⟨a, b, k2.extBut _ _ D.a2 to1⟩, itAt S1.n1 fun o e => k2.extBut _ _ D.a3 e, itAt S1.n2 fun o e => k2.extBut _ _ D.a4 e⟩
    · obtain ⟨a', b', to0⟩ := to
      obtain ⟨o1, ho1, _⟩ := n1
      obtain ⟨o2, ho2, _⟩ := n2
      have f := (hf b hb).1
      simp only [List.mem_cons, List.mem_nil_iff, or_false] at hb
      rw [upd_ne]
      · exact f
      · rcases hb with rfl | rfl | rfl | rfl | rfl
        · exact (lt zz).symm
        · exact (lt ti).symm
        · exact (lt to0).symm
        · exact (lt ho1).symm
        · exact (lt ho2).symm
  done := by
    intro X hP hw hK hc i pins s σ H E I hf ht hg
    obtain ⟨hi, q1, q2⟩ := hg
    subst hP hw hK hi
    obtain ⟨vs, r1, p1, _⟩ := I.tuple q1
    obtain ⟨us, r2, p2, _⟩ := I.tuple q2
    obtain ⟨zz, ti, to, n1, n2⟩ := ht
    have hl1 := r1.length
    refine zipNext_no (I.ok.hd hc) D ⟨zz, ti, to, n1, n2, p1, p2⟩ (by simp; omega) fun h1 k1 => ⟨rfl, I.turnedL (t' := s.toks) (wr := [z, TO, i1, i2]) (fun c o hc e => ?_) fun b hb => hf b ?_⟩
    · simp only [List.mem_cons, List.mem_nil_iff, or_false, not_or] at hc
      exact k1 c o hc.1 hc.2.1 hc.2.2.1 hc.2.2.2 e
    · simp only [List.mem_cons, List.mem_nil_iff, or_false] at hb ⊢
      rcases hb with h | h | h | h
      · exact .inl h
      · exact .inr (.inr (.inl h))
      · exact .inr (.inr (.inr (.inl h)))
      · exact .inr (.inr (.inr (.inr h)))
  self := fun _ _ _ _ _ st h => wpAny_pyIter_zip st.1 h
section
variable {X : Cx} {elts : List Expr} {k : Nat} {tpos : Pos}
def iZip (K : PySem.W.Frag) (ta : TA) : TI := fun σ H R => ta σ H fun vs H1 => ∃ a b xs ys, vs = [.ref a, .ref b] ∧ SqT K H1 a xs ∧ SqT K H1 b ys ∧ ys.length = xs.length ∧ R (ItW xs.length (fun H => SqT K H a xs ∧ SqT K H b ys) (rZip xs ys)) H1
theorem pi_zipT {a b : Expr} {ta : TA} {p pos : Pos} (hg : Gl X "zip") (hm : X.mg "zip" = none) (ha : PA X [a, b] ta) (hs : starEach [a, b] X.env = [(false, eval a X.env), (false, eval b X.env)] := by rfl) (hs2 : starEach [b] X.env = [(false, eval b X.env)] := by rfl) :
    PI X (.Tuple elts k tpos) (.Call (.Name "zip" p) [a, b] [] pos) (iZip X.K ta) := by
  intro pins s σ H R I h
  refine Call_ (ld_blt I hg hm boot_zip (PyProof.Rows.callWith_type1 (thn (ha pos pins s σ H _ I h) fun us s1 ⟨vs, H1, I1, r1, q1⟩ => ?_) (by rw [hs, hs2]) (by rw [hs2]; rfl)))
  obtain ⟨a, b, xs, ys, e, h1, h2, hl, q⟩ := q1
  subst e
  cases r1 with
  | cons r rr =>
    cases rr with
    | cons r' rr =>
      cases rr
      cases r
      cases r'
      obtain ⟨vs1, _, p1, _⟩ := I1.tuple h1
      obtain ⟨vs2, _, p2, _⟩ := I1.tuple h2
      have la : a < s1.heap.objs.size := let ⟨_, e, _⟩ := p1; Heap.lt_size e
      have lb : b < s1.heap.objs.size := let ⟨_, e, _⟩ := p2; Heap.lt_size e
      refine zipCall (show s1.heap.IsTuple a vs1.toArray from p1) (show s1.heap.IsTuple b vs2.toArray from p2) fun h' S kp => wpAny_pyIter_zip S.zz ?_
      have I2 : Inv X pins σ H1 { s1 with heap := h' } := I1.kept (t' := s1.toks) kp
      refine ⟨s1.heap.objs.size + 4, [s1.heap.objs.size + 4, s1.heap.objs.size + 2, s1.heap.objs.size + 3, s1.heap.objs.size, s1.heap.objs.size + 1], _, _, H1, rfl, I2, turn_zipT (t1 := a) (t2 := b) ⟨?_, ?_, ?_, ?_, ?_, ?_, ?_, ?_, ?_, ?_, ?_, ?_, ?_, ?_, ?_, ?_, ?_, ?_⟩ hl, ⟨S.zz, S.ti, S.to, S.n1, S.n2⟩, ?fp, q⟩
      case fp =>
       intro b hb
       have hb' : s1.heap.objs.size ≤ b := by
        simp only [List.mem_cons, List.mem_nil_iff, or_false] at hb
        rcases hb with rfl | rfl | rfl | rfl | rfl
        · exact Nat.le_add_right _ _
        · exact Nat.le_add_right _ _
        · exact Nat.le_add_right _ _
        · exact Nat.le_refl _
        · exact Nat.le_add_right _ _
       exact I1.fpOk hb' (I1.hok.fresh hb')
      all_goals first
        | exact ndA (by omega)
        | exact Nat.ne_of_lt (Nat.lt_of_lt_of_le la (Nat.le_add_right _ _))
        | exact Nat.ne_of_lt (Nat.lt_of_lt_of_le lb (Nat.le_add_right _ _))
        | exact Nat.ne_of_lt la
        | exact Nat.ne_of_lt lb
theorem qi_zipT {a b : Expr} {ta : TA} {p pos : Pos} (hg : Gl X "zip") (hm : X.mg "zip" = none) (ha : QA X [a, b] ta) (hs : starEach [a, b] X.env = [(false, eval a X.env), (false, eval b X.env)] := by rfl) (hs2 : starEach [b] X.env = [(false, eval b X.env)] := by rfl) :
    QI X (.Tuple elts k tpos) (.Call (.Name "zip" p) [a, b] [] pos) (iZip X.K ta) := ⟨pi_zipT hg hm ha.h hs hs2⟩
end
end L2
set_option Elab.async false
set_option linter.all false
set_option maxRecDepth 100000
set_option maxHeartbeats 4000000
namespace L2
open PySem PySem.Spec PyProof.Rows
abbrev kwS (k : Tok) : List (Str × Value) := [(Str.ofString "start", .int 1 k)]
theorem e1_type (a : Value) (k : Tok) : checkTypeCall "enumerate" ⟨[a], kwS k⟩ = pure () := by kernel_rfl
theorem e1_newc (a : Value) (k : Tok) : checkBuiltinCall "enumerate.__new__" ⟨[.type "enumerate", a], kwS k⟩ = pure () := by kernel_rfl
theorem e1_args (o a : Value) (k : Tok) : argsOk "object.__init__" ⟨[o, a], kwS k⟩ := by
  unfold argsOk
  rw [signature?_of (id := "object.__init__") (n := ['_', '_', 't', 'i', 'n', 'i', '_', '_']) (o := ['t', 'c', 'e', 'j', 'b', 'o']) (by kernel_rfl) F.owner_object]
  kernel_rfl
theorem e1_make (l : Addr) (vs : Array Value) (k : Tok) :
    Meets (Builtin.«enumerate.__new__» ⟨[.type "enumerate", .ref l], kwS k⟩) (fun _ R s => s.heap.IsTuple l vs ∧
      ∀ h0 h1 h2, h0 = s.heap → h1 = h0.push { cls := .type "tuple_iterator", data := .fields #[.ref l, .int 0 0] } → h2 = h1.push { cls := .type "enumerate", data := .fields #[.none, .bool false, .ref h0.objs.size, rawInt 1, .none, .none] } → R (.ok (.ret (.ref h1.objs.size))) { s with heap := h2 }) :=
  .of_wp fun prog w A R s h => by
    obtain ⟨hp, g, d, tk, os⟩ := s
    obtain ⟨hl1, h⟩ := h
    have hsub := sub_enumerate
    have hL1 : Heap.IsTuple (Shared.heap ⟨hp, g, d, tk, os⟩) l vs := hl1
    have h := h _ _ _ rfl rfl rfl
    wp_walk
    refine wpAny_stack_any fun st => wpAny_pure ?_
    split
    · rename_i c _ _ _ _ _
      cases (c == Value.type "enumerate")
      · wp_walk using wpAny_pyIter_tuple hL1
        exact ⟨_, rfl, h⟩
      · wp_walk using wpAny_pyIter_tuple hL1
        exact ⟨_, rfl, h⟩
    · wp_walk using wpAny_pyIter_tuple hL1
      exact ⟨_, rfl, h⟩
theorem e1_init {T newId : String} {self a : Value} {k : Tok} (hl : typeLookup (.type T) "__init__" = pure (some (.builtin "object.__init__")))
    (hm : Bind.madeBy (.type T) = pure (some newId)) (hne : (some newId != some "object.__new__") = true) :
    Meets (Builtin.«object.__init__» ⟨[self, a], kwS k⟩) (fun _ R s => s.TypeIs self T ∧ R (.ok (.ret .none)) s) := by
  refine Meets.of_wp fun prog w A R s hs => ?_
  obtain ⟨hT, hq⟩ := hs
  repeat any_goals (first | assumption | wp_step)
  exact ⟨_, rfl, hq⟩
end L2
set_option Elab.async false
set_option linter.all false
set_option maxRecDepth 100000
set_option maxHeartbeats 4000000
namespace L2
open PySem PySem.Spec PyProof.Rows
section
variable {prog : Program} {w : World} {A : Around} {E : Value → Shared → Prop} {s : Shared}
theorem e1_call {l : Addr} {vs : Array Value} {k : Tok} {Q : Value → Shared → Prop} (g1 : s.heap.IsTuple l vs)
    (q : ∀ h', IsEnum h' (s.heap.objs.size + 1) s.heap.objs.size 1 .none → h'.IsTupleIter s.heap.objs.size l 0 → (∀ c o, s.heap.get? c = some o → h'.get? c = some o) → Q (.ref (s.heap.objs.size + 1)) { s with heap := h' }) :
    wpAny (model prog w) A (call (.type "enumerate") [.ref l] (kwS k)) Q E s := by
  obtain ⟨c, tl, hmro⟩ := F.called_enumerate.mro
  have hmade := F.called_enumerate.made
  have hsub := F.called_enumerate.sub
  have hct := e1_type (.ref l) k
  refine wpAny_call (codeAny_of_tree (show wpAny _ _ (callAny (.type "enumerate") _) _ _ _ from wpAny_pure ⟨Code.quiet_builtin _ (by decide +kernel), codeAny_builtin F.entry_type_call ?_⟩))
  rw [Around.under_plain (weight_type_call_type "enumerate" [.ref l] (kwS k)) rfl]
  have h1 := F.called_enumerate.notType
  have h2 := F.called_enumerate.canCreate
  repeat any_goals (first | assumption | wp_step)
  have hS : (s.heap.push { cls := .type "tuple_iterator", data := .fields #[.ref l, .int 0 0] }).objs.size = s.heap.objs.size + 1 := Heap.size_push ..
  refine codeAny_mono (codeAny_call_builtin F.called_enumerate.plain F.entry_enumerate_new (wpAny_of_eq (e1_newc (.ref l) k) (e1_make l vs k prog w A.in1 (wants (fun obj s₁ => s₁.TypeIs obj "enumerate" ∧ Q obj s₁) E) s ⟨g1, fun h0 h1 h2 e0 e1 e2 => ?_⟩))) fun r s₁ hr => ?_
  · subst e0 e1 e2
    have he : IsEnum ((s.heap.push { cls := .type "tuple_iterator", data := .fields #[.ref l, .int 0 0] }).push { cls := .type "enumerate", data := .fields #[.none, .bool false, .ref s.heap.objs.size, rawInt 1, .none, .none] }) (s.heap.objs.size + 1) s.heap.objs.size 1 .none := by
      have := Heap.get?_push_size (s.heap.push { cls := .type "tuple_iterator", data := .fields #[.ref l, .int 0 0] }) (o := { cls := .type "enumerate", data := .fields #[.none, .bool false, .ref s.heap.objs.size, rawInt 1, .none, .none] }) rfl
      rw [hS] at this
      exact this
    show _ ∧ _
    rw [hS]
    exact ⟨⟨_, he, rfl⟩, q _ he ⟨_, Heap.get?_push_of_some _ (Heap.get?_push_size _ rfl), rfl, rfl⟩ fun c o x => Heap.get?_push_of_some _ (Heap.get?_push_of_some _ x)⟩
  · cases r with
    | error e => exact hr
    | ok fl =>
      cases fl with
      | ret obj =>
        obtain ⟨hT, hq⟩ := hr
        have hli := F.called_enumerate.init.lookup
        have hbi := F.called_enumerate.init.bind obj
        repeat any_goals (first | assumption | wp_step)
        refine codeAny_mono (codeAny_call_builtin F.called_enumerate.init.plain F.entry_object_init (F.called_enumerate.init.check _ _ _ _ _ _ _ _ hT (e1_args obj (.ref l) k) (e1_init F.called_enumerate.init.lookup F.called_enumerate.made (by decide) prog w A.in1 (wants (fun r s₂ => r = .none ∧ Q obj s₂) E) s₁ ⟨hT, rfl, hq⟩))) fun r₂ s₂ hr₂ => ?_
        cases r₂ with
        | error e => exact hr₂
        | ok fl₂ =>
          cases fl₂ with
          | ret r =>
            obtain ⟨rfl, hq⟩ := hr₂
            repeat any_goals (first | assumption | wp_step)
          | _ => exact hr₂.elim
      | _ => exact hr.elim
theorem callWith_tkw {M : Model} {A : Around} {E : Value → Shared → Prop} {s : Shared} {env : Env} {pos : Pos} {T : String} {e : Expr} {kws : List Keyword} {Q : Value → Shared → Prop}
    (h : wpAny M A (spliced (backTo pos (starEach [e] env))) (fun vs s₁ => wpAny M A (evalAll ((backToKw pos (keywordEach kws env)).map (·.2))) (fun kvs s₂ => wpAny M A (call (.type T) vs (((backToKw pos (keywordEach kws env)).filterMap (·.1)).zip kvs)) Q E s₂) E s₁) E s)
    (he : backTo pos (starEach [e] env) = (false, eval e env) :: backTo pos (starEach [] env)) (hp : (backTo pos (starEach [e] env)).any (·.1) = false)
    (ha : (backToKw pos (keywordEach kws env)).all (·.1.isSome) = true) (hk : (backToKw pos (keywordEach kws env)).any (·.1.isNone) = false) :
    wpAny M A (callWith pos (.type T) [] (backTo pos (starEach [e] env)) (backToKw pos (keywordEach kws env))) Q E s := by
  have g : wpAny M A (evalArgs (.type T) true (backTo pos (starEach [e] env)) (backToKw pos (keywordEach kws env))) (fun a s₁ => wpAny M A (call (.type T) ([] ++ a.pos) a.kw) Q E s₁) E s := by
    rw [he] at h ⊢
    exact evalArgs_kwB ha h
  unfold callWith
  refine wpAny_bind (wpAny_holding (wpAny_mono g (fun a s₁ h₁ => wpAny_bind (wpAny_standAt ?_)) fun _ _ x => x))
  rw [hp, hk]
  exact wpAny_bind (wpAny_pure (wpAny_bind (wpAny_mono h₁ (fun r s₂ hr => wpAny_bind (wpAny_holding (wpAny_point (wpAny_pure hr)))) fun _ _ x => x)))
end
theorem drawsT {prog : Program} {w : World} {A : Around} (hh : A.handled = none) (it t : Addr) (hne : t ≠ it) (vs : Array Value) :
    Draws prog w A it [it, t] (vs.size + 1) (fun j v => ∃ i, j = i + 1 ∧ vs[i]? = some v) (fun j h => ∃ i, j = i + 1 ∧ h.IsTupleIter it t i ∧ h.IsTuple t vs) where
  live := fun j h ⟨i, _, ⟨o, ho, _⟩, _⟩ => ⟨o, ho⟩
  frame := fun j h h' ⟨i, e, hi, ht⟩ k => ⟨i, e, itAt hi fun o x => k it (by simp) o x, tpAt ht fun o x => k t (by simp) o x⟩
  item := fun j s Q E hj ⟨i, e, hi, ht⟩ hQ => by
    have hlt : i < vs.size := by omega
    have hx : vs[i]? = some vs[i] := Array.getElem?_eq_getElem hlt
    refine tupNext_yes hi ht hx fun h' hi' hs => hQ _ h' s.toks ⟨i, e, hx⟩ ⟨i + 1, by omega, hi', tpAt ht fun o x => (hs.2 t hne).trans x⟩ hs
  done := fun s Q E ⟨i, e, hi, ht⟩ hE => tupNext_no hh hi ht (Array.getElem?_eq_none (by omega)) hE
def rEn1 (xs : List V) : Nat → List V → Prop := fun i vs => ∃ x, xs[i]? = some x ∧ vs = [.int ((i : Int) + 1), x]
theorem turn_en1 {P : Program} {w : World} {K : PySem.W.Frag} {elts : List Expr} {k : Nat} {pos : Pos} (xs : List V) {e it l : Addr} (ne : e ≠ it) (le : l ≠ e) (li : l ≠ it) :
    Turn P w K (.Tuple elts k pos) (ItW xs.length (fun H => SqT K H l xs) (rEn1 xs)) [e, it] e (fun i h => (∃ old, IsEnum h e it ((i + 1 : Nat) : Int) old) ∧ h.IsTupleIter it l i) where
  mem := by simp
  obj := fun i h ht b hb => by
    obtain ⟨⟨old, he⟩, o, ho, c, d⟩ := ht
    rcases List.mem_cons.mp hb with z | z
    · rw [z]
      exact ⟨_, he, fun v z => by cases z⟩
    · rw [List.mem_singleton.mp z]
      exact ⟨o, ho, fun v z => by rw [d] at z; cases z⟩
  keep := fun i h h' ht k => by
    obtain ⟨⟨old, he⟩, o, ho, r⟩ := ht
    exact ⟨⟨old, k e (by simp) _ he⟩, o, k it (by simp) o ho, r⟩
  item := by
    intro X hP hw hK hc i pins s σ H E I hf ht ⟨hi, hG⟩
    have hh := I.ok.hd hc
    subst hP hw hK
    obtain ⟨vs, rv, pl, hz⟩ := I.tuple hG
    have hlen := rv.length
    have W := WalksT.enumerateD (drawsT (prog := X.prog) (w := X.w) (A := X.A.in1) hh it l li vs.toArray) e ne (by simp [ne, le.symm]) (by simp)
    refine W.item (i + 1) s _ _ (by rw [List.size_toArray]; omega) ⟨ht.1, i, rfl, ht.2, pl⟩ fun T vals h1 tk hv hT ht1 hm k1 => ?_
    refine ⟨_, rfl, W.go elts k pos (i + 1) T _ _ _ hm fun h2 S2 k2 => ?_⟩
    obtain ⟨t, v, ⟨i', ei, hx⟩, rfl⟩ := hv
    have ei' : i' = i := by omega
    subst ei'
    obtain ⟨x, hx'⟩ := some_of_lt hi
    obtain ⟨v', hv', rx⟩ := rv.get hx'
    have ev : v' = v := by
      have : vs[i']? = some v := by simpa using hx
      rw [hv'] at this
      exact Option.some.inj this
    subst ev
    have nT : T ∉ [e, it] := W.apart (i' + 1) T _ hm
    have t2 : IsTup h2 T [Value.int ((i' : Int) + 1) t, v'].toArray := by
      rw [show (i' : Int) + 1 = ((i' + 1 : Nat) : Int) by omega]
      obtain ⟨o, ho, c, m, d⟩ := ht1
      exact ⟨o, k2 T o nT ho, c, m, by rw [d]⟩
    obtain ⟨S2a, i2, e2, S2b, S2c⟩ := S2
    have e2' : i2 = i' + 1 := by omega
    subst e2'
    refine ⟨.ref T, upd H T (.tup [.int ((i' : Int) + 1), x]), I.turnedT (wr := [e, it]) (fun b o hb q => k2 b o hb (k1 b o hb q)) hf hT (by show 2 ≤ sizeLine; decide) (.cons ⟨t, rfl⟩ (.cons rx .nil)) t2, rfl, ⟨T, _, rfl, I.hok.fresh hT, ⟨x, hx', rfl⟩, rfl⟩, ⟨S2a, S2b⟩, fun b hb => ?_⟩
    have f := (hf b hb).1
    have hb2 : ∃ o, s.heap.get? b = some o := by
      obtain ⟨⟨old, he⟩, o, ho, c, d⟩ := ht
      rcases List.mem_cons.mp hb with z | z
      · rw [z]; exact ⟨_, he⟩
      · rw [List.mem_singleton.mp z]; exact ⟨o, ho⟩
    obtain ⟨o, ho⟩ := hb2
    have nb : b ≠ T := fun z => by
      subst z
      exact absurd (Nat.lt_of_lt_of_le (Heap.lt_size ho) hT) (Nat.lt_irrefl _)
    rw [upd_ne nb]
    exact f
  done := by
    intro X hP hw hK hc i pins s σ H E I hf ht ⟨hi, hG⟩
    have hh := I.ok.hd hc
    subst hP hw hK hi
    obtain ⟨vs, rv, pl, hz⟩ := I.tuple hG
    have hlen := rv.length
    have W := WalksT.enumerateD (drawsT (prog := X.prog) (w := X.w) (A := X.A.in1) hh it l li vs.toArray) e ne (by simp [ne, le.symm]) (by simp)
    have e1 : vs.toArray.size = xs.length := by rw [List.size_toArray]; omega
    refine W.done s _ _ ?_ fun h1 tk k1 => ⟨rfl, I.turnedL (wr := [e, it]) k1 fun b hb => hf b hb⟩
    rw [e1]
    exact ⟨ht.1, _, rfl, ht.2, pl⟩
  self := fun A i s Q E ht q => by
    obtain ⟨⟨old, he⟩, _⟩ := ht
    exact wpAny_pyIter_enum he q
section
variable {X : Cx} {elts : List Expr} {k : Nat} {tpos : Pos}
def iEn1 (K : PySem.W.Frag) (te : TE) : TI := fun σ H R => te σ H fun x H1 => ∃ l xs, x = .ref l ∧ SqT K H1 l xs ∧ R (ItW xs.length (fun H => SqT K H l xs) (rEn1 xs)) H1
theorem pi_en1 {e : Expr} {te : TE} {p pos kp cp : Pos} {j : Nat} (hg : Gl X "enumerate") (hm : X.mg "enumerate" = none) (he : PE X e te) (hst : starEach [e] X.env = [(false, eval e X.env)] := by rfl) : PI X (.Tuple elts k tpos) (.Call (.Name "enumerate" p) [e] [⟨some "start", .Constant (.int 1) j cp, kp⟩] pos) (iEn1 X.K te) := by
  intro pins s σ H R I h
  refine wpAny_Call_Name_kw (ld_blt I hg hm boot_enumerate ?_)
  refine callWith_tkw ?_ (by rw [hst]; rfl) (by rw [hst]; rfl) rfl rfl
  rw [hst]
  refine Calls.spliced_cons (thn (he pins s σ H _ I h) fun u s1 ⟨x, H1, I1, r1, l, xs, ex, hq, q⟩ => Calls.spliced_nil (kws_cons (wpAny_Constant_int (kws_nil ?_))))
  subst ex
  cases r1
  have I2 := I1.tok (s1.toks + 1)
  obtain ⟨vs, rv, pl, hz⟩ := I2.tuple hq
  have ll : l < s1.heap.objs.size := let ⟨_, e, _⟩ := pl; Heap.lt_size e
  refine e1_call (s := { s1 with toks := s1.toks + 1 }) pl fun h' he hi kp => wpAny_pyIter_enum he ?_
  have I3 : Inv X pins σ H1 { s1 with heap := h', toks := s1.toks + 1 } := I2.kept (t' := s1.toks + 1) kp
  refine ⟨s1.heap.objs.size + 1, [s1.heap.objs.size + 1, s1.heap.objs.size], _, _, H1, rfl, I3, turn_en1 xs (Nat.succ_ne_self _) (Nat.ne_of_lt (Nat.lt_succ_of_lt ll)) (Nat.ne_of_lt ll), ⟨⟨_, he⟩, hi⟩, fun b hb => ?_, q⟩
  have hb' : b = s1.heap.objs.size + 1 ∨ b = s1.heap.objs.size := by simpa using hb
  rcases hb' with z | z <;> subst z
  · exact I1.fpOk (Nat.le_succ _) (I1.hok.fresh (Nat.le_succ _))
  · exact I1.fpOk (Nat.le_refl _) (I1.hok.fresh (Nat.le_refl _))
theorem qi_en1 {e : Expr} {te : TE} {p pos kp cp : Pos} {j : Nat} (hg : Gl X "enumerate") (hm : X.mg "enumerate" = none) (he : QE X e te) (hst : starEach [e] X.env = [(false, eval e X.env)] := by rfl) : QI X (.Tuple elts k tpos) (.Call (.Name "enumerate" p) [e] [⟨some "start", .Constant (.int 1) j cp, kp⟩] pos) (iEn1 X.K te) := ⟨pi_en1 hg hm he.h hst⟩
end
end L2
set_option Elab.async false
set_option linter.all false
set_option maxRecDepth 100000
set_option maxHeartbeats 4000000
namespace K21
open PySem L2
set_option genInjectivity false
set_option genSizeOf false
theorem bd1 {K : PySem.W.Frag} {x qual : Str} {st : Stmt} {f : Addr} {fd : FuncData} {ps : List Str} (F : Fun K x qual st f fd) (hl : ps.length = 1) (h : ∀ (kV doc pm : Value) (an : Option Addr) (cdv ct : Value) (a : Value), bindArgs (PySem.W.fnOf x qual (defArgs st) (defBody st) (defScope st) .none kV doc pm an cdv ct) ⟨[a], []⟩ = pure (ps.zip [a])) : Binds K fd ps [] := F.binds fun kV doc pm an cdv ct us e => by
  rw [hl] at e
  match us, e with
  | [a], _ => exact h kV doc pm an cdv ct a
theorem bd2 {K : PySem.W.Frag} {x qual : Str} {st : Stmt} {f : Addr} {fd : FuncData} {ps : List Str} (F : Fun K x qual st f fd) (hl : ps.length = 2) (h : ∀ (kV doc pm : Value) (an : Option Addr) (cdv ct : Value) (a b : Value), bindArgs (PySem.W.fnOf x qual (defArgs st) (defBody st) (defScope st) .none kV doc pm an cdv ct) ⟨[a, b], []⟩ = pure (ps.zip [a, b])) : Binds K fd ps [] := F.binds fun kV doc pm an cdv ct us e => by
  rw [hl] at e
  match us, e with
  | [a, b], _ => exact h kV doc pm an cdv ct a b
theorem bd3 {K : PySem.W.Frag} {x qual : Str} {st : Stmt} {f : Addr} {fd : FuncData} {ps : List Str} (F : Fun K x qual st f fd) (hl : ps.length = 3) (h : ∀ (kV doc pm : Value) (an : Option Addr) (cdv ct : Value) (a b c : Value), bindArgs (PySem.W.fnOf x qual (defArgs st) (defBody st) (defScope st) .none kV doc pm an cdv ct) ⟨[a, b, c], []⟩ = pure (ps.zip [a, b, c])) : Binds K fd ps [] := F.binds fun kV doc pm an cdv ct us e => by
  rw [hl] at e
  match us, e with
  | [a, b, c], _ => exact h kV doc pm an cdv ct a b c
theorem bd4 {K : PySem.W.Frag} {x qual : Str} {st : Stmt} {f : Addr} {fd : FuncData} {ps : List Str} (F : Fun K x qual st f fd) (hl : ps.length = 4) (h : ∀ (kV doc pm : Value) (an : Option Addr) (cdv ct : Value) (a b c d : Value), bindArgs (PySem.W.fnOf x qual (defArgs st) (defBody st) (defScope st) .none kV doc pm an cdv ct) ⟨[a, b, c, d], []⟩ = pure (ps.zip [a, b, c, d])) : Binds K fd ps [] := F.binds fun kV doc pm an cdv ct us e => by
  rw [hl] at e
  match us, e with
  | [a, b, c, d], _ => exact h kV doc pm an cdv ct a b c d
def top (i : Nat) : Stmt := PySem.Challenge.pw_leafsay_k21_paths_and_branches.main.body.getD i (.Pass ⟨0, 0, 0, 0⟩)
abbrev s_qpaths : Stmt := top 13
abbrev s_qbranchat : Stmt := top 14
abbrev s_qputin : Stmt := top 15
abbrev s_qword : Stmt := top 17
abbrev s_qwhole : Stmt := top 18
abbrev s_qsame : Stmt := top 19
abbrev s_qbuilt : Stmt := top 20
abbrev s_qnodes : Stmt := top 21
abbrev s_qputright : Stmt := top 22
abbrev s_qrefused : Stmt := top 23
abbrev s_qodd : Stmt := top 24
abbrev s_qlpaths : Stmt := top 25
abbrev s_law : Stmt := top 26
theorem sc_qpaths : FnScope ["tree", "found", "k", "branch"] ["tree"] (defScope s_qpaths) := ⟨rfl, rfl, rfl, by decide +kernel, rfl, by decide +kernel, by decide +kernel⟩
theorem sc_qbranchat : FnScope ["tree", "path", "node", "k"] ["tree", "path"] (defScope s_qbranchat) := ⟨rfl, rfl, rfl, by decide +kernel, rfl, by decide +kernel, by decide +kernel⟩
theorem sc_qputin : FnScope ["tree", "path", "branch", "k", "lower"] ["tree", "path", "branch"] (defScope s_qputin) := ⟨rfl, rfl, rfl, by decide +kernel, rfl, by decide +kernel, by decide +kernel⟩
theorem sc_qword : FnScope ["_law_cell", "_law_k", "_law_letters", "_law_long", "_law_at", "_law_fill"] ["_law_cell", "_law_k"] (defScope s_qword) := ⟨rfl, rfl, rfl, by decide +kernel, rfl, by decide +kernel, by decide +kernel⟩
theorem sc_qwhole : FnScope ["_law_found"] ["_law_found"] (defScope s_qwhole) := ⟨rfl, rfl, rfl, by decide +kernel, rfl, by decide +kernel, by decide +kernel⟩
theorem sc_qsame : FnScope ["_law_found", "_law_due", "_law_one", "_law_other"] ["_law_found", "_law_due"] (defScope s_qsame) := ⟨rfl, rfl, rfl, by decide +kernel, rfl, by decide +kernel, by decide +kernel⟩
theorem sc_qbuilt : FnScope ["_law_script", "_law_word_here", "_law_most", "_law_rows", "_law_cell", "_law_number", "_law_up", "_law_mark", "_law_made", "_law_k"] ["_law_script", "_law_word_here", "_law_most"] (defScope s_qbuilt) := ⟨rfl, rfl, rfl, by decide +kernel, rfl, by decide +kernel, by decide +kernel⟩
theorem sc_qnodes : FnScope ["_law_tree", "_law_found", "_law_left", "_law_path", "_law_node", "_law_k"] ["_law_tree"] (defScope s_qnodes) := ⟨rfl, rfl, rfl, by decide +kernel, rfl, by decide +kernel, by decide +kernel⟩
theorem sc_qputright : FnScope ["_law_tree", "_law_path", "_law_branch", "_law_found", "_law_k", "_law_j"] ["_law_tree", "_law_path", "_law_branch", "_law_found"] (defScope s_qputright) := ⟨rfl, rfl, rfl, by decide +kernel, rfl, by decide +kernel, by decide +kernel⟩
theorem sc_qrefused : FnScope ["_law_tree", "_law_path", "_law_branch", "_law_putting", "_law_own", "error"] ["_law_tree", "_law_path", "_law_branch", "_law_putting"] (defScope s_qrefused) := ⟨rfl, rfl, rfl, by decide +kernel, rfl, by decide +kernel, by decide +kernel⟩
theorem sc_qodd : FnScope ["_law_tree", "_law_path", "_law_cell", "_law_at", "_law_node", "_law_k", "_law_many", "_law_far", "_law_odd_here"] ["_law_tree", "_law_path", "_law_cell"] (defScope s_qodd) := ⟨rfl, rfl, rfl, by decide +kernel, rfl, by decide +kernel, by decide +kernel⟩
theorem sc_qlpaths : FnScope ["_law_tree", "_law_due", "_law_found"] ["_law_tree", "_law_due"] (defScope s_qlpaths) := ⟨rfl, rfl, rfl, by decide +kernel, rfl, by decide +kernel, by decide +kernel⟩
theorem sc_law : FnScope ["_law_script", "_law_seed", "_law_cell", "_law_tree", "_law_some", "_law_due", "_law_k", "_law_number", "_law_path", "_law_node", "_law_branch", "_law_odd_here"] ["_law_script"] (defScope s_law) := ⟨rfl, rfl, rfl, by decide +kernel, rfl, by decide +kernel, by decide +kernel⟩
structure Adr where
  qpaths : Addr
  d_qpaths : FuncData
  qbranchat : Addr
  d_qbranchat : FuncData
  qputin : Addr
  d_qputin : FuncData
  qword : Addr
  d_qword : FuncData
  qwhole : Addr
  d_qwhole : FuncData
  qsame : Addr
  d_qsame : FuncData
  qbuilt : Addr
  d_qbuilt : FuncData
  qnodes : Addr
  d_qnodes : FuncData
  qputright : Addr
  d_qputright : FuncData
  qrefused : Addr
  d_qrefused : FuncData
  qodd : Addr
  d_qodd : FuncData
  qlpaths : Addr
  d_qlpaths : FuncData
  law : Addr
  d_law : FuncData
  k_LeafError : Addr
  k_NoText : Addr
  k_TooGreat : Addr
  k_NoName : Addr
  k_NoRule : Addr
  k_NoKind : Addr
  k_NoTree : Addr
  k_NoPlace : Addr
  k_NoGiven : Addr
  k_NoWalk : Addr
  k_Ring : Addr
structure Tx (K : PySem.W.Frag) (mg : Str → Option Value) (T : Adr) : Prop where
  F_qpaths : Fun K "paths" "paths" s_qpaths T.qpaths T.d_qpaths
  b_qpaths : Binds K T.d_qpaths ["tree"] []
  m_qpaths : mg "paths" = some (.ref T.qpaths)
  F_qbranchat : Fun K "branch_at" "branch_at" s_qbranchat T.qbranchat T.d_qbranchat
  b_qbranchat : Binds K T.d_qbranchat ["tree", "path"] []
  m_qbranchat : mg "branch_at" = some (.ref T.qbranchat)
  F_qputin : Fun K "put_in" "put_in" s_qputin T.qputin T.d_qputin
  b_qputin : Binds K T.d_qputin ["tree", "path", "branch"] []
  m_qputin : mg "put_in" = some (.ref T.qputin)
  F_qword : Fun K "_law_word" "_law_word" s_qword T.qword T.d_qword
  b_qword : Binds K T.d_qword ["_law_cell", "_law_k"] []
  m_qword : mg "_law_word" = some (.ref T.qword)
  F_qwhole : Fun K "_law_whole" "_law_whole" s_qwhole T.qwhole T.d_qwhole
  b_qwhole : Binds K T.d_qwhole ["_law_found"] []
  m_qwhole : mg "_law_whole" = some (.ref T.qwhole)
  F_qsame : Fun K "_law_same" "_law_same" s_qsame T.qsame T.d_qsame
  b_qsame : Binds K T.d_qsame ["_law_found", "_law_due"] []
  m_qsame : mg "_law_same" = some (.ref T.qsame)
  F_qbuilt : Fun K "_law_built" "_law_built" s_qbuilt T.qbuilt T.d_qbuilt
  b_qbuilt : Binds K T.d_qbuilt ["_law_script", "_law_word_here", "_law_most"] []
  m_qbuilt : mg "_law_built" = some (.ref T.qbuilt)
  F_qnodes : Fun K "_law_nodes" "_law_nodes" s_qnodes T.qnodes T.d_qnodes
  b_qnodes : Binds K T.d_qnodes ["_law_tree"] []
  m_qnodes : mg "_law_nodes" = some (.ref T.qnodes)
  F_qputright : Fun K "_law_put_right" "_law_put_right" s_qputright T.qputright T.d_qputright
  b_qputright : Binds K T.d_qputright ["_law_tree", "_law_path", "_law_branch", "_law_found"] []
  m_qputright : mg "_law_put_right" = some (.ref T.qputright)
  F_qrefused : Fun K "_law_refused" "_law_refused" s_qrefused T.qrefused T.d_qrefused
  b_qrefused : Binds K T.d_qrefused ["_law_tree", "_law_path", "_law_branch", "_law_putting"] []
  m_qrefused : mg "_law_refused" = some (.ref T.qrefused)
  F_qodd : Fun K "_law_odd" "_law_odd" s_qodd T.qodd T.d_qodd
  b_qodd : Binds K T.d_qodd ["_law_tree", "_law_path", "_law_cell"] []
  m_qodd : mg "_law_odd" = some (.ref T.qodd)
  F_qlpaths : Fun K "_law_paths" "_law_paths" s_qlpaths T.qlpaths T.d_qlpaths
  b_qlpaths : Binds K T.d_qlpaths ["_law_tree", "_law_due"] []
  m_qlpaths : mg "_law_paths" = some (.ref T.qlpaths)
  F_law : Fun K "law" "law" s_law T.law T.d_law
  b_law : Binds K T.d_law ["_law_script"] []
  m_law : mg "law" = some (.ref T.law)
  z_ValueError : mg "ValueError" = none
  z_bool : mg "bool" = none
  z_enumerate : mg "enumerate" = none
  z_int : mg "int" = none
  z_isinstance : mg "isinstance" = none
  z_len : mg "len" = none
  z_list : mg "list" = none
  z_range : mg "range" = none
  z_reversed : mg "reversed" = none
  z_str : mg "str" = none
  z_tuple : mg "tuple" = none
  z_zip : mg "zip" = none
  m_LeafError : mg "LeafError" = some (.ref T.k_LeafError)
  e_LeafError : ExcC K T.k_LeafError
  m_NoText : mg "NoText" = some (.ref T.k_NoText)
  m_TooGreat : mg "TooGreat" = some (.ref T.k_TooGreat)
  m_NoName : mg "NoName" = some (.ref T.k_NoName)
  m_NoRule : mg "NoRule" = some (.ref T.k_NoRule)
  m_NoKind : mg "NoKind" = some (.ref T.k_NoKind)
  m_NoTree : mg "NoTree" = some (.ref T.k_NoTree)
  m_NoPlace : mg "NoPlace" = some (.ref T.k_NoPlace)
  e_NoPlace : ExcC K T.k_NoPlace
  x_NoPlace : XCls K T.k_NoPlace
  u_NoPlace_LeafError : PySem.W.mroIn K T.k_NoPlace (.ref T.k_LeafError) = some true
  i_NoPlace_0 : PySem.W.kitOne K (.ref T.k_NoPlace) (.ref T.k_NoPlace) = some true
  i_NoPlace_1 : PySem.W.kitOne K (.ref T.k_NoPlace) (.type "ValueError") = some true
  i_NoPlace_2 : PySem.W.kitAny K (.ref T.k_NoPlace) [.ref T.k_NoText, .ref T.k_TooGreat, .ref T.k_NoName, .ref T.k_NoRule, .ref T.k_NoKind, .ref T.k_NoTree, .ref T.k_NoGiven, .ref T.k_NoWalk, .ref T.k_Ring] = some false
  m_NoGiven : mg "NoGiven" = some (.ref T.k_NoGiven)
  m_NoWalk : mg "NoWalk" = some (.ref T.k_NoWalk)
  m_Ring : mg "Ring" = some (.ref T.k_Ring)
theorem tx_mk {K : PySem.W.Frag} {h : Heap} {mg : Str → Option Value} (X : K.In h) (G : h.Ns mainGlobals mg) {f0 f1 f2 f3 f4 f5 f6 f7 f8 f9 f10 f11 f12 : Addr} {od0 an0 od1 an1 od2 an2 od3 an3 od4 an4 od5 an5 od6 an6 od7 an7 od8 an8 od9 an9 od10 an10 od11 an11 od12 an12 : Option Addr} {sl0 sl1 sl2 sl3 sl4 sl5 sl6 sl7 sl8 sl9 sl10 sl11 sl12 : Array (Option Value)}
    {oc0 kV0 dc0 pm0 cd0 ct0 oc1 kV1 dc1 pm1 cd1 ct1 oc2 kV2 dc2 pm2 cd2 ct2 oc3 kV3 dc3 pm3 cd3 ct3 oc4 kV4 dc4 pm4 cd4 ct4 oc5 kV5 dc5 pm5 cd5 ct5 oc6 kV6 dc6 pm6 cd6 ct6 oc7 kV7 dc7 pm7 cd7 ct7 oc8 kV8 dc8 pm8 cd8 ct8 oc9 kV9 dc9 pm9 cd9 ct9 oc10 kV10 dc10 pm10 cd10 ct10 oc11 kV11 dc11 pm11 cd11 ct11 oc12 kV12 dc12 pm12 cd12 ct12 : Value}
    {k_LeafError k_NoText k_TooGreat k_NoName k_NoRule k_NoKind k_NoTree k_NoPlace k_NoGiven k_NoWalk k_Ring : Addr}
    (m_LeafError : PySem.W.nsIn K mainGlobals "LeafError" = some (some (.ref k_LeafError)))
    (m_NoText : PySem.W.nsIn K mainGlobals "NoText" = some (some (.ref k_NoText)))
    (m_TooGreat : PySem.W.nsIn K mainGlobals "TooGreat" = some (some (.ref k_TooGreat)))
    (m_NoName : PySem.W.nsIn K mainGlobals "NoName" = some (some (.ref k_NoName)))
    (m_NoRule : PySem.W.nsIn K mainGlobals "NoRule" = some (some (.ref k_NoRule)))
    (m_NoKind : PySem.W.nsIn K mainGlobals "NoKind" = some (some (.ref k_NoKind)))
    (m_NoTree : PySem.W.nsIn K mainGlobals "NoTree" = some (some (.ref k_NoTree)))
    (m_NoPlace : PySem.W.nsIn K mainGlobals "NoPlace" = some (some (.ref k_NoPlace)))
    (m_NoGiven : PySem.W.nsIn K mainGlobals "NoGiven" = some (some (.ref k_NoGiven)))
    (m_NoWalk : PySem.W.nsIn K mainGlobals "NoWalk" = some (some (.ref k_NoWalk)))
    (m_Ring : PySem.W.nsIn K mainGlobals "Ring" = some (some (.ref k_Ring)))
    (a0 : PySem.W.nsIn K mainGlobals "paths" = some (some (.ref f0))) (l0 : K.lookup f0 = some ⟨oc0, od0, .func (PySem.W.fnOf "paths" "paths" (defArgs s_qpaths) (defBody s_qpaths) (defScope s_qpaths) .none kV0 dc0 pm0 an0 cd0 ct0), sl0⟩) (c0 : PySem.W.codeIn K cd0 "paths" = true) (k0 : PySem.W.keepIn K (.ref f0) = true)
    (a1 : PySem.W.nsIn K mainGlobals "branch_at" = some (some (.ref f1))) (l1 : K.lookup f1 = some ⟨oc1, od1, .func (PySem.W.fnOf "branch_at" "branch_at" (defArgs s_qbranchat) (defBody s_qbranchat) (defScope s_qbranchat) .none kV1 dc1 pm1 an1 cd1 ct1), sl1⟩) (c1 : PySem.W.codeIn K cd1 "branch_at" = true) (k1 : PySem.W.keepIn K (.ref f1) = true)
    (a2 : PySem.W.nsIn K mainGlobals "put_in" = some (some (.ref f2))) (l2 : K.lookup f2 = some ⟨oc2, od2, .func (PySem.W.fnOf "put_in" "put_in" (defArgs s_qputin) (defBody s_qputin) (defScope s_qputin) .none kV2 dc2 pm2 an2 cd2 ct2), sl2⟩) (c2 : PySem.W.codeIn K cd2 "put_in" = true) (k2 : PySem.W.keepIn K (.ref f2) = true)
    (a3 : PySem.W.nsIn K mainGlobals "_law_word" = some (some (.ref f3))) (l3 : K.lookup f3 = some ⟨oc3, od3, .func (PySem.W.fnOf "_law_word" "_law_word" (defArgs s_qword) (defBody s_qword) (defScope s_qword) .none kV3 dc3 pm3 an3 cd3 ct3), sl3⟩) (c3 : PySem.W.codeIn K cd3 "_law_word" = true) (k3 : PySem.W.keepIn K (.ref f3) = true)
    (a4 : PySem.W.nsIn K mainGlobals "_law_whole" = some (some (.ref f4))) (l4 : K.lookup f4 = some ⟨oc4, od4, .func (PySem.W.fnOf "_law_whole" "_law_whole" (defArgs s_qwhole) (defBody s_qwhole) (defScope s_qwhole) .none kV4 dc4 pm4 an4 cd4 ct4), sl4⟩) (c4 : PySem.W.codeIn K cd4 "_law_whole" = true) (k4 : PySem.W.keepIn K (.ref f4) = true)
    (a5 : PySem.W.nsIn K mainGlobals "_law_same" = some (some (.ref f5))) (l5 : K.lookup f5 = some ⟨oc5, od5, .func (PySem.W.fnOf "_law_same" "_law_same" (defArgs s_qsame) (defBody s_qsame) (defScope s_qsame) .none kV5 dc5 pm5 an5 cd5 ct5), sl5⟩) (c5 : PySem.W.codeIn K cd5 "_law_same" = true) (k5 : PySem.W.keepIn K (.ref f5) = true)
    (a6 : PySem.W.nsIn K mainGlobals "_law_built" = some (some (.ref f6))) (l6 : K.lookup f6 = some ⟨oc6, od6, .func (PySem.W.fnOf "_law_built" "_law_built" (defArgs s_qbuilt) (defBody s_qbuilt) (defScope s_qbuilt) .none kV6 dc6 pm6 an6 cd6 ct6), sl6⟩) (c6 : PySem.W.codeIn K cd6 "_law_built" = true) (k6 : PySem.W.keepIn K (.ref f6) = true)
    (a7 : PySem.W.nsIn K mainGlobals "_law_nodes" = some (some (.ref f7))) (l7 : K.lookup f7 = some ⟨oc7, od7, .func (PySem.W.fnOf "_law_nodes" "_law_nodes" (defArgs s_qnodes) (defBody s_qnodes) (defScope s_qnodes) .none kV7 dc7 pm7 an7 cd7 ct7), sl7⟩) (c7 : PySem.W.codeIn K cd7 "_law_nodes" = true) (k7 : PySem.W.keepIn K (.ref f7) = true)
    (a8 : PySem.W.nsIn K mainGlobals "_law_put_right" = some (some (.ref f8))) (l8 : K.lookup f8 = some ⟨oc8, od8, .func (PySem.W.fnOf "_law_put_right" "_law_put_right" (defArgs s_qputright) (defBody s_qputright) (defScope s_qputright) .none kV8 dc8 pm8 an8 cd8 ct8), sl8⟩) (c8 : PySem.W.codeIn K cd8 "_law_put_right" = true) (k8 : PySem.W.keepIn K (.ref f8) = true)
    (a9 : PySem.W.nsIn K mainGlobals "_law_refused" = some (some (.ref f9))) (l9 : K.lookup f9 = some ⟨oc9, od9, .func (PySem.W.fnOf "_law_refused" "_law_refused" (defArgs s_qrefused) (defBody s_qrefused) (defScope s_qrefused) .none kV9 dc9 pm9 an9 cd9 ct9), sl9⟩) (c9 : PySem.W.codeIn K cd9 "_law_refused" = true) (k9 : PySem.W.keepIn K (.ref f9) = true)
    (a10 : PySem.W.nsIn K mainGlobals "_law_odd" = some (some (.ref f10))) (l10 : K.lookup f10 = some ⟨oc10, od10, .func (PySem.W.fnOf "_law_odd" "_law_odd" (defArgs s_qodd) (defBody s_qodd) (defScope s_qodd) .none kV10 dc10 pm10 an10 cd10 ct10), sl10⟩) (c10 : PySem.W.codeIn K cd10 "_law_odd" = true) (k10 : PySem.W.keepIn K (.ref f10) = true)
    (a11 : PySem.W.nsIn K mainGlobals "_law_paths" = some (some (.ref f11))) (l11 : K.lookup f11 = some ⟨oc11, od11, .func (PySem.W.fnOf "_law_paths" "_law_paths" (defArgs s_qlpaths) (defBody s_qlpaths) (defScope s_qlpaths) .none kV11 dc11 pm11 an11 cd11 ct11), sl11⟩) (c11 : PySem.W.codeIn K cd11 "_law_paths" = true) (k11 : PySem.W.keepIn K (.ref f11) = true)
    (a12 : PySem.W.nsIn K mainGlobals "law" = some (some (.ref f12))) (l12 : K.lookup f12 = some ⟨oc12, od12, .func (PySem.W.fnOf "law" "law" (defArgs s_law) (defBody s_law) (defScope s_law) .none kV12 dc12 pm12 an12 cd12 ct12), sl12⟩) (c12 : PySem.W.codeIn K cd12 "law" = true) (k12 : PySem.W.keepIn K (.ref f12) = true)
    (z_ValueError : PySem.W.nsIn K mainGlobals "ValueError" = some none)
    (z_bool : PySem.W.nsIn K mainGlobals "bool" = some none)
    (z_enumerate : PySem.W.nsIn K mainGlobals "enumerate" = some none)
    (z_int : PySem.W.nsIn K mainGlobals "int" = some none)
    (z_isinstance : PySem.W.nsIn K mainGlobals "isinstance" = some none)
    (z_len : PySem.W.nsIn K mainGlobals "len" = some none)
    (z_list : PySem.W.nsIn K mainGlobals "list" = some none)
    (z_range : PySem.W.nsIn K mainGlobals "range" = some none)
    (z_reversed : PySem.W.nsIn K mainGlobals "reversed" = some none)
    (z_str : PySem.W.nsIn K mainGlobals "str" = some none)
    (z_tuple : PySem.W.nsIn K mainGlobals "tuple" = some none)
    (z_zip : PySem.W.nsIn K mainGlobals "zip" = some none)
    (e_LeafError : PySem.W.excIn K k_LeafError vbm "ValueError.__new__" = true)
    (e_NoPlace : PySem.W.excIn K k_NoPlace vbm "ValueError.__new__" = true)
    (xga_NoPlace : PySem.W.findIn K (.ref k_NoPlace) "__getattribute__" = some (some (.builtin "BaseException.__getattribute__")))
    (xgt_NoPlace : PySem.W.findIn K (.ref k_NoPlace) "__getattr__" = some none)
    (xca_NoPlace : PySem.W.findIn K (.ref k_NoPlace) "__class__" = some (some (.builtin "object.__class__")))
    (xsp_NoPlace : PySem.W.specialIn K (.builtin "object.__class__") "__get__" = some (some (.builtin "getset_descriptor.__get__")))
    (xtk_NoPlace : PySem.W.takesIn K (.builtin "object.__class__") = some true)
    (xmo_NoPlace : PySem.W.mroIn K k_NoPlace (.type "object") = some true)
    (xmb_NoPlace : PySem.W.mroIn K k_NoPlace (.type "BaseException") = some true)
    (u_NoPlace_LeafError : PySem.W.mroIn K k_NoPlace (.ref k_LeafError) = some true)
    (i_NoPlace_0 : PySem.W.kitOne K (.ref k_NoPlace) (.ref k_NoPlace) = some true)
    (i_NoPlace_1 : PySem.W.kitOne K (.ref k_NoPlace) (.type "ValueError") = some true)
    (i_NoPlace_2 : PySem.W.kitAny K (.ref k_NoPlace) [.ref k_NoText, .ref k_TooGreat, .ref k_NoName, .ref k_NoRule, .ref k_NoKind, .ref k_NoTree, .ref k_NoGiven, .ref k_NoWalk, .ref k_Ring] = some false)
    : ∃ T : Adr, Tx K mg T := by
  have F0 := fun_mk (st := s_qpaths) l0 c0 k0
  have F1 := fun_mk (st := s_qbranchat) l1 c1 k1
  have F2 := fun_mk (st := s_qputin) l2 c2 k2
  have F3 := fun_mk (st := s_qword) l3 c3 k3
  have F4 := fun_mk (st := s_qwhole) l4 c4 k4
  have F5 := fun_mk (st := s_qsame) l5 c5 k5
  have F6 := fun_mk (st := s_qbuilt) l6 c6 k6
  have F7 := fun_mk (st := s_qnodes) l7 c7 k7
  have F8 := fun_mk (st := s_qputright) l8 c8 k8
  have F9 := fun_mk (st := s_qrefused) l9 c9 k9
  have F10 := fun_mk (st := s_qodd) l10 c10 k10
  have F11 := fun_mk (st := s_qlpaths) l11 c11 k11
  have F12 := fun_mk (st := s_law) l12 c12 k12
  exact ⟨⟨f0, _, f1, _, f2, _, f3, _, f4, _, f5, _, f6, _, f7, _, f8, _, f9, _, f10, _, f11, _, f12, _, k_LeafError, k_NoText, k_TooGreat, k_NoName, k_NoRule, k_NoKind, k_NoTree, k_NoPlace, k_NoGiven, k_NoWalk, k_Ring⟩, ⟨F0, bd1 (ps := ["tree"]) F0 rfl (fun _ _ _ _ _ _ _ => rfl), PySem.W.mg_of X G a0, F1, bd2 (ps := ["tree", "path"]) F1 rfl (fun _ _ _ _ _ _ _ _ => rfl), PySem.W.mg_of X G a1, F2, bd3 (ps := ["tree", "path", "branch"]) F2 rfl (fun _ _ _ _ _ _ _ _ _ => rfl), PySem.W.mg_of X G a2, F3, bd2 (ps := ["_law_cell", "_law_k"]) F3 rfl (fun _ _ _ _ _ _ _ _ => rfl), PySem.W.mg_of X G a3, F4, bd1 (ps := ["_law_found"]) F4 rfl (fun _ _ _ _ _ _ _ => rfl), PySem.W.mg_of X G a4, F5, bd2 (ps := ["_law_found", "_law_due"]) F5 rfl (fun _ _ _ _ _ _ _ _ => rfl), PySem.W.mg_of X G a5, F6, bd3 (ps := ["_law_script", "_law_word_here", "_law_most"]) F6 rfl (fun _ _ _ _ _ _ _ _ _ => rfl), PySem.W.mg_of X G a6, F7, bd1 (ps := ["_law_tree"]) F7 rfl (fun _ _ _ _ _ _ _ => rfl), PySem.W.mg_of X G a7, F8, bd4 (ps := ["_law_tree", "_law_path", "_law_branch", "_law_found"]) F8 rfl (fun _ _ _ _ _ _ _ _ _ _ => rfl), PySem.W.mg_of X G a8, F9, bd4 (ps := ["_law_tree", "_law_path", "_law_branch", "_law_putting"]) F9 rfl (fun _ _ _ _ _ _ _ _ _ _ => rfl), PySem.W.mg_of X G a9, F10, bd3 (ps := ["_law_tree", "_law_path", "_law_cell"]) F10 rfl (fun _ _ _ _ _ _ _ _ _ => rfl), PySem.W.mg_of X G a10, F11, bd2 (ps := ["_law_tree", "_law_due"]) F11 rfl (fun _ _ _ _ _ _ _ _ => rfl), PySem.W.mg_of X G a11, F12, bd1 (ps := ["_law_script"]) F12 rfl (fun _ _ _ _ _ _ _ => rfl), PySem.W.mg_of X G a12, PySem.W.mg_none_of X G z_ValueError, PySem.W.mg_none_of X G z_bool, PySem.W.mg_none_of X G z_enumerate, PySem.W.mg_none_of X G z_int, PySem.W.mg_none_of X G z_isinstance, PySem.W.mg_none_of X G z_len, PySem.W.mg_none_of X G z_list, PySem.W.mg_none_of X G z_range, PySem.W.mg_none_of X G z_reversed, PySem.W.mg_none_of X G z_str, PySem.W.mg_none_of X G z_tuple, PySem.W.mg_none_of X G z_zip, PySem.W.mg_of X G m_LeafError, e_LeafError, PySem.W.mg_of X G m_NoText, PySem.W.mg_of X G m_TooGreat, PySem.W.mg_of X G m_NoName, PySem.W.mg_of X G m_NoRule, PySem.W.mg_of X G m_NoKind, PySem.W.mg_of X G m_NoTree, PySem.W.mg_of X G m_NoPlace, e_NoPlace, ⟨e_NoPlace, xga_NoPlace, xgt_NoPlace, xca_NoPlace, xsp_NoPlace, xtk_NoPlace, xmo_NoPlace, xmb_NoPlace⟩, u_NoPlace_LeafError, i_NoPlace_0, i_NoPlace_1, i_NoPlace_2, PySem.W.mg_of X G m_NoGiven, PySem.W.mg_of X G m_NoWalk, PySem.W.mg_of X G m_Ring⟩⟩
end K21
set_option Elab.async false
set_option linter.all false
set_option maxRecDepth 100000
set_option maxHeartbeats 4000000
namespace TR
open PySem L2 TM
inductive Tr where
  | node (nm : Str) (mk : Int) (bs : List Tr)
def Tr.nm : Tr → Str
  | .node n _ _ => n
def Tr.mk' : Tr → Int
  | .node _ m _ => m
def Tr.bs : Tr → List Tr
  | .node _ _ b => b
mutual
def size : Tr → Nat
  | .node _ _ bs => 1 + sizes bs
def sizes : List Tr → Nat
  | [] => 0
  | t :: ts => size t + sizes ts
end
mutual
def deep : Tr → Nat
  | .node _ _ bs => 1 + deeps bs
def deeps : List Tr → Nat
  | [] => 0
  | t :: ts => max (deep t) (deeps ts)
end
mutual
def TrIs (H : Hp) : Tr → V → Prop
  | .node nm mk bs, v => ∃ p b vs, v = .ref p ∧ H p = some (.tup [.str nm, .int mk, .ref b]) ∧ H b = some (.tup vs) ∧ TrsIs H bs vs
def TrsIs (H : Hp) : List Tr → List V → Prop
  | [], vs => vs = []
  | t :: ts, vs => ∃ v r, vs = v :: r ∧ TrIs H t v ∧ TrsIs H ts r
end
theorem trs_l2r {H : Hp} : ∀ {ts : List Tr} {vs : List V}, TrsIs H ts vs → L2R (TrIs H) ts vs
  | [], vs, h => by unfold TrsIs at h; subst h; exact .nil
  | t :: ts, vs, h => by unfold TrsIs at h; obtain ⟨v, r, rfl, h1, h2⟩ := h; exact .cons h1 (trs_l2r h2)
theorem trs_of {H : Hp} : ∀ {ts : List Tr} {vs : List V}, L2R (TrIs H) ts vs → TrsIs H ts vs
  | _, _, .nil => by unfold TrsIs; rfl
  | _, _, .cons x y => by unfold TrsIs; exact ⟨_, _, rfl, x, trs_of y⟩
mutual
theorem TrIs.same {H H' : Hp} (e : SameT H H') : ∀ (t : Tr) {v : V}, TrIs H t v → TrIs H' t v
  | .node nm mk bs, v, h => by
    unfold TrIs at h ⊢
    obtain ⟨p, b, vs, rfl, h1, h2, h3⟩ := h
    exact ⟨p, b, vs, rfl, e _ _ h1, e _ _ h2, TrsIs.same e bs h3⟩
theorem TrsIs.same {H H' : Hp} (e : SameT H H') : ∀ (ts : List Tr) {vs : List V}, TrsIs H ts vs → TrsIs H' ts vs
  | [], vs, h => by unfold TrsIs at h ⊢; exact h
  | t :: ts, vs, h => by
    unfold TrsIs at h ⊢
    obtain ⟨v, r, rfl, h1, h2⟩ := h
    exact ⟨v, r, rfl, TrIs.same e t h1, TrsIs.same e ts h2⟩
end
theorem TrIs.op {H : Hp} {t : Tr} {v : V} (h : TrIs H t v) : ∃ p b vs, v = .ref p ∧ H p = some (.tup [.str t.nm, .int t.mk', .ref b]) ∧ H b = some (.tup vs) ∧ L2R (TrIs H) t.bs vs := by
  cases t with
  | node nm mk bs =>
    unfold TrIs at h
    obtain ⟨p, b, vs, rfl, h1, h2, h3⟩ := h
    exact ⟨p, b, vs, rfl, h1, h2, trs_l2r h3⟩
theorem TrIs.cl {H : Hp} {nm : Str} {mk : Int} {bs : List Tr} {p b : Addr} {vs : List V} (h1 : H p = some (.tup [.str nm, .int mk, .ref b])) (h2 : H b = some (.tup vs)) (h3 : L2R (TrIs H) bs vs) : TrIs H (.node nm mk bs) (.ref p) := by
  unfold TrIs
  exact ⟨p, b, vs, rfl, h1, h2, trs_of h3⟩
theorem size_eq (t : Tr) : size t = 1 + sizes t.bs := by cases t; rw [size]; rfl
theorem deep_eq (t : Tr) : deep t = 1 + deeps t.bs := by cases t; rw [deep]; rfl
theorem sizes_mem : ∀ {ts : List Tr} {t : Tr}, t ∈ ts → size t ≤ sizes ts
  | [], _, h => nomatch h
  | x :: ts, t, h => by
    unfold sizes
    rcases List.mem_cons.mp h with rfl | h
    · omega
    · have := sizes_mem h; omega
theorem deeps_mem : ∀ {ts : List Tr} {t : Tr}, t ∈ ts → deep t ≤ deeps ts
  | [], _, h => nomatch h
  | x :: ts, t, h => by
    unfold deeps
    rcases List.mem_cons.mp h with rfl | h
    · omega
    · have := deeps_mem h; omega
theorem deeps_le {k : Nat} : ∀ {ts : List Tr}, (∀ t ∈ ts, deep t ≤ k) → deeps ts ≤ k
  | [], _ => by unfold deeps; exact Nat.zero_le _
  | x :: ts, h => by
    unfold deeps
    have := deeps_le fun t ht => h t (List.mem_cons_of_mem _ ht)
    have := h x List.mem_cons_self
    omega
theorem size_pos (t : Tr) : 1 ≤ size t := by rw [size_eq]; omega
theorem sizes_len : ∀ ts : List Tr, ts.length ≤ sizes ts
  | [] => Nat.zero_le _
  | t :: ts => by
    unfold sizes
    have := sizes_len ts
    have := size_pos t
    rw [List.length_cons]
    omega
theorem bs_len {t : Tr} {k : Nat} (h : size t ≤ k) : t.bs.length < k := by
  have := sizes_len t.bs
  rw [size_eq] at h
  omega
theorem size_br {t u : Tr} (h : u ∈ t.bs) : size u < size t := by
  have := sizes_mem h
  rw [size_eq t]
  omega
theorem deep_br {t u : Tr} (h : u ∈ t.bs) : deep u < deep t := by
  have := deeps_mem h
  rw [deep_eq t]
  omega
theorem sizes_map (f : Nat → Tr) : ∀ ks : List Nat, sizes (ks.map f) = (ks.map fun k => size (f k)).sum
  | [] => by rw [List.map_nil, sizes]; rfl
  | k :: ks => by rw [List.map_cons, sizes, sizes_map f ks, List.map_cons, List.sum_cons]
mutual
theorem deep_size : ∀ t : Tr, deep t ≤ size t
  | .node _ _ bs => by rw [deep, size]; have := deeps_sizes bs; omega
theorem deeps_sizes : ∀ ts : List Tr, deeps ts ≤ sizes ts
  | [] => by rw [deeps, sizes]; exact Nat.le_refl _
  | t :: ts => by rw [deeps, sizes]; have := deep_size t; have := deeps_sizes ts; omega
end
theorem sizes_take : ∀ (i : Nat) (ts : List Tr), sizes (ts.take i) ≤ sizes ts
  | 0, ts => by rw [List.take_zero, sizes]; exact Nat.zero_le _
  | i + 1, [] => by rw [List.take_nil]; exact Nat.le_refl _
  | i + 1, t :: ts => by rw [List.take_succ_cons, sizes, sizes]; have := sizes_take i ts; omega
mutual
def pths : Tr → List (List Int)
  | .node _ _ bs => [] :: pthss 1 bs
def pthss (k : Int) : List Tr → List (List Int)
  | [] => []
  | t :: ts => (pths t).map (k :: ·) ++ pthss (k + 1) ts
end
theorem pths_eq (t : Tr) : pths t = [] :: pthss 1 t.bs := by cases t; rw [pths]; rfl
mutual
theorem pths_len : ∀ t : Tr, (pths t).length = size t
  | .node _ _ bs => by rw [pths, size, List.length_cons, pthss_len bs]; omega
theorem pthss_len : ∀ (ts : List Tr) {k : Int}, (pthss k ts).length = sizes ts
  | [], k => by rw [pthss, sizes]; rfl
  | t :: ts, k => by rw [pthss, sizes, List.length_append, List.length_map, pths_len t, pthss_len ts]
end
theorem pthss_app : ∀ (ts us : List Tr) (k : Int), pthss k (ts ++ us) = pthss k ts ++ pthss (k + ts.length) us
  | [], us, k => by rw [List.nil_append, pthss]; simp
  | t :: ts, us, k => by
    rw [List.cons_append, pthss, pthss, pthss_app ts us, List.append_assoc]
    have : k + 1 + (ts.length : Int) = k + ((t :: ts).length : Int) := by rw [List.length_cons]; omega
    rw [this]
theorem pthss_snoc (ts : List Tr) (t : Tr) : pthss 1 (ts ++ [t]) = pthss 1 ts ++ (pths t).map ((1 + (ts.length : Int)) :: ·) := by
  rw [pthss_app, pthss, pthss, List.append_nil]
mutual
theorem pths_short : ∀ (t : Tr) {p : List Int}, p ∈ pths t → p.length < deep t
  | .node _ _ bs, p, h => by
    rw [pths] at h
    rw [deep]
    rcases List.mem_cons.mp h with rfl | h
    · show 0 < 1 + deeps bs
      omega
    · have := pthss_short bs h
      omega
theorem pthss_short : ∀ (ts : List Tr) {k : Int} {p : List Int}, p ∈ pthss k ts → p.length ≤ deeps ts
  | [], k, p, h => by rw [pthss] at h; cases h
  | t :: ts, k, p, h => by
    rw [pthss] at h
    rw [deeps]
    rcases List.mem_append.mp h with h | h
    · obtain ⟨q, hq, rfl⟩ := List.mem_map.mp h
      have := pths_short t hq
      rw [List.length_cons]
      omega
    · have := pthss_short ts h
      omega
end
def PthIs (H : Hp) (p : List Int) (v : V) : Prop := ∃ a, v = .ref a ∧ H a = some (.tup (p.map V.int))
theorem PthIs.same {H H' : Hp} (e : SameT H H') {p : List Int} {v : V} (h : PthIs H p v) : PthIs H' p v := by
  obtain ⟨a, x, y⟩ := h
  exact ⟨a, x, e _ _ y⟩
def atT : List Int → Tr → Option Tr
  | [], t => some t
  | k :: ks, t => if 1 ≤ k then (t.bs[(k - 1).toNat]?).bind (atT ks) else none
theorem atT_app : ∀ (p q : List Int) (t : Tr), atT (p ++ q) t = (atT p t).bind (atT q)
  | [], q, t => rfl
  | k :: p, q, t => by
    rw [List.cons_append]
    unfold atT
    split
    · cases t.bs[(k - 1).toNat]? with
      | none => rfl
      | some c => exact atT_app p q c
    · rfl
theorem atT_odd {p r : List Int} {t u : Tr} {k : Int} (h : atT p t = some u) (hk : k < 1 ∨ (u.bs.length : Int) < k) : atT (p ++ k :: r) t = none := by
  rw [atT_app, h]
  show atT (k :: r) u = none
  unfold atT
  split
  · rw [List.getElem?_eq_none (by omega)]
    rfl
  · rfl
theorem atT_cons {k : Int} {ks : List Int} {t u : Tr} (h : atT (k :: ks) t = some u) : 1 ≤ k ∧ k ≤ t.bs.length ∧ ∃ c, t.bs[(k - 1).toNat]? = some c ∧ c ∈ t.bs ∧ atT ks c = some u := by
  unfold atT at h
  split at h
  · rename_i h1
    cases hc : t.bs[(k - 1).toNat]? with
    | none => rw [hc] at h; cases h
    | some c =>
      rw [hc] at h
      have := lt_of_some (xs := t.bs) hc
      exact ⟨h1, by omega, c, rfl, List.mem_of_getElem? hc, h⟩
  · cases h
theorem atT_size : ∀ {p : List Int} {t u : Tr}, atT p t = some u → size u ≤ size t
  | [], t, u, h => by cases h; exact Nat.le_refl _
  | k :: p, t, u, h => by
    obtain ⟨_, _, c, _, hm, h'⟩ := atT_cons h
    have := atT_size h'
    have := size_br hm
    omega
theorem atT_deep : ∀ {p : List Int} {t u : Tr}, atT p t = some u → deep u + p.length ≤ deep t
  | [], t, u, h => by cases h; exact Nat.le_refl _
  | k :: p, t, u, h => by
    obtain ⟨_, _, c, _, hm, h'⟩ := atT_cons h
    have := atT_deep h'
    have := deep_br hm
    rw [List.length_cons]
    omega
def putT : List Int → Tr → Tr → Option Tr
  | [], _, b => some b
  | k :: ks, t, b => if 1 ≤ k then (t.bs[(k - 1).toNat]?).bind fun c => (putT ks c b).map fun c' => .node t.nm t.mk' (t.bs.set (k - 1).toNat c') else none
theorem putT_none : ∀ {p : List Int} {t b : Tr}, atT p t = none → putT p t b = none
  | [], t, b, h => nomatch h
  | k :: p, t, b, h => by
    unfold atT at h
    unfold putT
    split at h
    · rename_i h1
      rw [if_pos h1]
      cases hc : t.bs[(k - 1).toNat]? with
      | none => rfl
      | some c =>
        rw [hc] at h
        have h : atT p c = none := h
        show (putT p c b).map _ = none
        rw [putT_none h]
        rfl
    · rename_i h1
      rw [if_neg h1]
theorem putT_cons {k : Int} {ks : List Int} {t b r : Tr} (h : putT (k :: ks) t b = some r) : 1 ≤ k ∧ k ≤ t.bs.length ∧ ∃ c c', t.bs[(k - 1).toNat]? = some c ∧ c ∈ t.bs ∧ putT ks c b = some c' ∧ r = .node t.nm t.mk' (t.bs.set (k - 1).toNat c') := by
  unfold putT at h
  split at h
  · rename_i h1
    cases hc : t.bs[(k - 1).toNat]? with
    | none => rw [hc] at h; cases h
    | some c =>
      rw [hc] at h
      have h : (putT ks c b).map (fun c' => Tr.node t.nm t.mk' (t.bs.set (k - 1).toNat c')) = some r := h
      obtain ⟨c', hc', e⟩ := Option.map_eq_some_iff.mp h
      have := lt_of_some (xs := t.bs) hc
      exact ⟨h1, by omega, c, c', rfl, List.mem_of_getElem? hc, hc', e.symm⟩
  · cases h
theorem putT_some : ∀ {p : List Int} {t b u : Tr}, atT p t = some u → ∃ r, putT p t b = some r
  | [], t, b, u, h => ⟨b, rfl⟩
  | k :: p, t, b, u, h => by
    obtain ⟨h1, _, c, hc, _, h'⟩ := atT_cons h
    obtain ⟨r, hr⟩ := putT_some (b := b) h'
    refine ⟨.node t.nm t.mk' (t.bs.set (k - 1).toNat r), ?_⟩
    unfold putT
    rw [if_pos h1, hc]
    show (putT p c b).map _ = _
    rw [hr]
    rfl
def kidsP (p : List Int) : Int → List Tr → List (List Int × Tr)
  | _, [] => []
  | k, t :: ts => (p ++ [k], t) :: kidsP p (k + 1) ts
mutual
def nds (p : List Int) : Tr → List (List Int × Tr)
  | .node nm mk bs => (p, .node nm mk bs) :: ndss p 1 bs
def ndss (p : List Int) (k : Int) : List Tr → List (List Int × Tr)
  | [] => []
  | t :: ts => nds (p ++ [k]) t ++ ndss p (k + 1) ts
end
theorem nds_eq (p : List Int) (t : Tr) : nds p t = (p, t) :: ndss p 1 t.bs := by cases t; rw [nds]; rfl
theorem ndss_eq (p : List Int) : ∀ (ts : List Tr) (k : Int), ndss p k ts = (kidsP p k ts).flatMap fun x => nds x.1 x.2
  | [], k => by rw [ndss, kidsP]; rfl
  | t :: ts, k => by rw [ndss, kidsP, List.flatMap_cons, ndss_eq p ts]
theorem kidsP_len (p : List Int) : ∀ (ts : List Tr) (k : Int), (kidsP p k ts).length = ts.length
  | [], k => rfl
  | t :: ts, k => by rw [kidsP, List.length_cons, List.length_cons, kidsP_len p ts]
theorem kidsP_get (p : List Int) : ∀ (ts : List Tr) (k : Int) {i : Nat} {t : Tr}, ts[i]? = some t → (kidsP p k ts)[i]? = some (p ++ [k + i], t)
  | [], k, i, t, h => by simp at h
  | t' :: ts, k, 0, t, h => by
    rw [kidsP]
    simp at h ⊢
    exact h
  | t' :: ts, k, i + 1, t, h => by
    rw [kidsP, List.getElem?_cons_succ, kidsP_get p ts (k + 1) (by simpa using h)]
    have : k + 1 + (i : Int) = k + ((i + 1 : Nat) : Int) := by omega
    rw [this]
mutual
theorem nds_len : ∀ (t : Tr) {p : List Int}, (nds p t).length = size t
  | .node _ _ bs, p => by rw [nds, size, List.length_cons, ndss_len bs]; omega
theorem ndss_len : ∀ (ts : List Tr) {p : List Int} {k : Int}, (ndss p k ts).length = sizes ts
  | [], p, k => by rw [ndss, sizes]; rfl
  | t :: ts, p, k => by rw [ndss, sizes, List.length_append, nds_len t, ndss_len ts]
end
mutual
theorem nds_pth : ∀ (t : Tr) (p : List Int), (nds p t).map Prod.fst = (pths t).map (p ++ ·)
  | .node _ _ bs, p => by rw [nds, pths, List.map_cons, List.map_cons, ndss_pth bs, List.append_nil]
theorem ndss_pth : ∀ (ts : List Tr) (p : List Int) (k : Int), (ndss p k ts).map Prod.fst = (pthss k ts).map (p ++ ·)
  | [], p, k => by rw [ndss, pthss]; rfl
  | t :: ts, p, k => by
    rw [ndss, pthss, List.map_append, List.map_append, nds_pth t, ndss_pth ts, List.map_map]
    congr 1
    apply List.map_congr_left
    intro q _
    simp
end
theorem nds_all (t : Tr) : (nds [] t).map Prod.fst = pths t := by
  rw [nds_pth]
  have : (fun q : List Int => [] ++ q) = id := funext fun q => rfl
  rw [this, List.map_id]
mutual
theorem nds_at : ∀ (t : Tr) {p q : List Int} {u : Tr}, (q, u) ∈ nds p t → ∃ r, q = p ++ r ∧ atT r t = some u
  | .node nm mk bs, p, q, u, h => by
    rw [nds] at h
    rcases List.mem_cons.mp h with h | h
    · cases h
      exact ⟨[], by simp, rfl⟩
    · obtain ⟨j, c, r, hc, e, h'⟩ := ndss_at bs h
      refine ⟨(1 + (j : Int)) :: r, e, ?_⟩
      unfold atT
      rw [if_pos (by omega)]
      have : ((1 : Int) + j - 1).toNat = j := by omega
      rw [this]
      show (bs[j]?).bind _ = _
      rw [hc]
      exact h'
theorem ndss_at : ∀ (ts : List Tr) {p q : List Int} {u : Tr} {k : Int}, (q, u) ∈ ndss p k ts → ∃ (j : Nat) (c : Tr) (r : List Int), ts[j]? = some c ∧ q = p ++ (k + j) :: r ∧ atT r c = some u
  | [], p, q, u, k, h => by rw [ndss] at h; cases h
  | t :: ts, p, q, u, k, h => by
    rw [ndss] at h
    rcases List.mem_append.mp h with h | h
    · obtain ⟨r, e, h'⟩ := nds_at t h
      exact ⟨0, t, r, rfl, by rw [e]; simp, h'⟩
    · obtain ⟨j, c, r, hc, e, h'⟩ := ndss_at ts h
      refine ⟨j + 1, c, r, by simpa using hc, ?_, h'⟩
      rw [e]
      have : k + 1 + (j : Int) = k + ((j + 1 : Nat) : Int) := by omega
      rw [this]
end
def NdIs (H : Hp) (x : List Int × Tr) (v : V) : Prop := ∃ a b u, v = .ref a ∧ H a = some (.tup [.ref b, u]) ∧ H b = some (.tup (x.1.map V.int)) ∧ TrIs H x.2 u
theorem NdIs.same {H H' : Hp} (e : SameT H H') {x : List Int × Tr} {v : V} (h : NdIs H x v) : NdIs H' x v := by
  obtain ⟨a, b, u, h1, h2, h3, h4⟩ := h
  exact ⟨a, b, u, h1, e _ _ h2, e _ _ h3, TrIs.same e _ h4⟩
def sumTo : Nat → (Nat → Nat) → Nat
  | 0, _ => 0
  | n + 1, g => sumTo n g + g n
theorem sumTo_congr {g h : Nat → Nat} : ∀ {n : Nat}, (∀ i, i < n → g i = h i) → sumTo n g = sumTo n h
  | 0, _ => rfl
  | n + 1, e => by
    unfold sumTo
    rw [sumTo_congr fun i hi => e i (by omega), e n (by omega)]
theorem sumTo_bump {g h : Nat → Nat} {u c : Nat} : ∀ {n : Nat}, u < n → (∀ i, i < n → i ≠ u → h i = g i) → h u = g u + c → sumTo n h = sumTo n g + c
  | 0, hu, _, _ => absurd hu (by omega)
  | n + 1, hu, e, eu => by
    unfold sumTo
    by_cases hn : u = n
    · subst hn
      rw [sumTo_congr (g := h) (h := g) fun i hi => e i (by omega) (by omega), eu]
      omega
    · rw [sumTo_bump (n := n) (by omega) (fun i hi => e i (by omega)) eu, e n (by omega) (fun z => hn z.symm)]
      omega
theorem sumTo_add (g h : Nat → Nat) : ∀ n : Nat, sumTo n (fun i => g i + h i) = sumTo n g + sumTo n h
  | 0 => rfl
  | n + 1 => by
    show sumTo n (fun i => g i + h i) + (g n + h n) = sumTo n g + g n + (sumTo n h + h n)
    rw [sumTo_add g h n]
    omega
theorem sumTo_one : ∀ n : Nat, sumTo n (fun _ => 1) = n
  | 0 => rfl
  | n + 1 => by
    unfold sumTo
    rw [sumTo_one n]
theorem sumTo_at {g : Nat → Nat} : ∀ {n i : Nat}, i < n → g i ≤ sumTo n g
  | 0, i, h => absurd h (by omega)
  | n + 1, i, h => by
    unfold sumTo
    by_cases e : i = n
    · subst e; omega
    · have := sumTo_at (g := g) (n := n) (i := i) (by omega)
      omega
structure Rw where
  nm : Str
  ma : Int
  kd : List Nat
  lv : Nat
structure RwOk (most n : Nat) (R : Nat → Rw) : Prop where
  pos : 1 ≤ n
  tot : ∀ f : Nat → Nat, sumTo n (fun i => ((R i).kd.map f).sum) + f 0 = sumTo n f
  kid : ∀ i, i < n → ∀ j ∈ (R i).kd, i < j ∧ j < n ∧ (R j).lv = (R i).lv + 1
  lev : ∀ i, i < n → 1 ≤ (R i).lv ∧ (R i).lv ≤ most
  top : (R 0).lv = 1
  nms : ∀ i, i < n → NmOk (R i).nm
  mks : ∀ i, i < n → 0 ≤ (R i).ma ∧ (R i).ma < 1000000000000000000
def grow (R : Nat → Rw) (n u pos : Nat) (new : Rw) : Nat → Rw := fun i => if i = n then new else if i = u then { R u with kd := (R u).kd.take pos ++ n :: (R u).kd.drop pos } else R i
theorem grow_new {R : Nat → Rw} {n u pos : Nat} {new : Rw} : grow R n u pos new n = new := if_pos rfl
theorem grow_up {R : Nat → Rw} {n u pos : Nat} {new : Rw} (h : u < n) : grow R n u pos new u = { R u with kd := (R u).kd.take pos ++ n :: (R u).kd.drop pos } := by
  unfold grow
  rw [if_neg (by omega), if_pos rfl]
theorem grow_else {R : Nat → Rw} {n u pos i : Nat} {new : Rw} (h : i ≠ n) (h' : i ≠ u) : grow R n u pos new i = R i := by
  unfold grow
  rw [if_neg h, if_neg h']
theorem sum_ins (f : Nat → Nat) (xs : List Nat) (n pos : Nat) : ((xs.take pos ++ n :: xs.drop pos).map f).sum = (xs.map f).sum + f n := by
  have e : (xs.map f).sum = ((xs.take pos).map f).sum + ((xs.drop pos).map f).sum := by
    rw [← List.sum_append, ← List.map_append, List.take_append_drop]
  rw [List.map_append, List.sum_append, List.map_cons, List.sum_cons, e]
  omega
theorem RwOk.grow {most n : Nat} {R : Nat → Rw} (ok : RwOk most n R) {u pos : Nat} {nm : Str} {mk : Int} (hu : u < n) (hl : (R u).lv < most) (hn : NmOk nm) (h0 : 0 ≤ mk) (h1 : mk < 1000000000000000000) :
    RwOk most (n + 1) (grow R n u pos ⟨nm, mk, [], (R u).lv + 1⟩) := by
  have lv_same : ∀ i, i < n → (TR.grow R n u pos ⟨nm, mk, [], (R u).lv + 1⟩ i).lv = (R i).lv := fun i hi => by
    by_cases e : i = u
    · rw [e, grow_up hu]
    · rw [grow_else (by omega) e]
  refine ⟨by omega, fun f => ?_, fun i hi j hj => ?_, fun i hi => ?_, ?_, fun i hi => ?_, fun i hi => ?_⟩
  · have t := ok.tot f
    have b := sumTo_bump (g := fun i => ((R i).kd.map f).sum) (h := fun i => ((TR.grow R n u pos ⟨nm, mk, [], (R u).lv + 1⟩ i).kd.map f).sum) (c := f n) hu (fun i hi hne => by
      show ((TR.grow R n u pos ⟨nm, mk, [], (R u).lv + 1⟩ i).kd.map f).sum = ((R i).kd.map f).sum
      rw [grow_else (by omega) hne]) (by
      show ((TR.grow R n u pos ⟨nm, mk, [], (R u).lv + 1⟩ u).kd.map f).sum = _
      rw [grow_up hu]
      exact sum_ins f _ n pos)
    have e1 : ((TR.grow R n u pos ⟨nm, mk, [], (R u).lv + 1⟩ n).kd.map f).sum = 0 := by rw [grow_new]; rfl
    show sumTo n (fun i => ((TR.grow R n u pos ⟨nm, mk, [], (R u).lv + 1⟩ i).kd.map f).sum) + ((TR.grow R n u pos ⟨nm, mk, [], (R u).lv + 1⟩ n).kd.map f).sum + f 0 = sumTo n f + f n
    omega
  · by_cases e : i = n
    · rw [e, grow_new] at hj
      cases hj
    · by_cases eu : i = u
      · rw [eu, grow_up hu] at hj
        have hj : j ∈ (R u).kd.take pos ++ n :: (R u).kd.drop pos := hj
        have hj' : j ∈ (R u).kd ∨ j = n := by
          rcases List.mem_append.mp hj with h | h
          · exact .inl (List.mem_of_mem_take h)
          · rcases List.mem_cons.mp h with h | h
            · exact .inr h
            · exact .inl (List.mem_of_mem_drop h)
        rw [lv_same i (by omega)]
        rcases hj' with h | h
        · obtain ⟨a, b, c⟩ := ok.kid u hu j h
          rw [lv_same j b, eu]
          exact ⟨a, by omega, c⟩
        · rw [h, grow_new, eu]
          exact ⟨hu, by omega, rfl⟩
      · rw [grow_else e eu] at hj
        obtain ⟨a, b, c⟩ := ok.kid i (by omega) j hj
        rw [lv_same i (by omega), lv_same j b]
        exact ⟨a, by omega, c⟩
  · by_cases e : i = n
    · rw [e, grow_new]
      have := ok.lev u hu
      exact ⟨by show 1 ≤ (R u).lv + 1; omega, hl⟩
    · rw [lv_same i (by omega)]
      exact ok.lev i (by omega)
  · rw [lv_same 0 (by have := ok.pos; omega)]
    exact ok.top
  · by_cases e : i = n
    · rw [e, grow_new]; exact hn
    · by_cases eu : i = u
      · rw [eu, grow_up hu]; exact ok.nms u hu
      · rw [grow_else e eu]; exact ok.nms i (by omega)
  · by_cases e : i = n
    · rw [e, grow_new]; exact ⟨h0, h1⟩
    · by_cases eu : i = u
      · rw [eu, grow_up hu]; exact ok.mks u hu
      · rw [grow_else e eu]; exact ok.mks i (by omega)
theorem RwOk.one {most : Nat} {nm : Str} (h : 1 ≤ most) (hn : NmOk nm) {R : Nat → Rw} (e : R 0 = ⟨nm, 0, [], 1⟩) : RwOk most 1 R := by
  refine ⟨Nat.le_refl _, fun f => ?_, fun i hi j hj => ?_, fun i hi => ?_, by rw [e], fun i hi => ?_, fun i hi => ?_⟩
  · show 0 + ((R 0).kd.map f).sum + f 0 = 0 + f 0
    rw [e]
    simp
  all_goals
    have : i = 0 := by omega
    subst this
    rw [e] at *
  · cases hj
  · exact ⟨Nat.le_refl _, h⟩
  · exact hn
  · exact ⟨Int.le_refl _, by show (0 : Int) < 1000000000000000000; decide⟩
theorem RwOk.few {most n : Nat} {R : Nat → Rw} (ok : RwOk most n R) {i : Nat} (hi : i < n) : (R i).kd.length < n := by
  have t := ok.tot fun _ => 1
  rw [sumTo_one] at t
  have a := sumTo_at (g := fun i => ((R i).kd.map fun _ => 1).sum) hi
  have e : ((R i).kd.map fun _ => 1).sum = (R i).kd.length := by
    generalize (R i).kd = xs
    induction xs with
    | nil => rfl
    | cons x xs ih => rw [List.map_cons, List.sum_cons, ih, List.length_cons]; omega
  have a : ((R i).kd.map fun _ => 1).sum ≤ sumTo n (fun i => ((R i).kd.map fun _ => 1).sum) := a
  omega
theorem trees_of {most n : Nat} {R : Nat → Rw} (ok : RwOk most n R) : ∃ tr : Nat → Tr, ∀ i, i < n → tr i = .node (R i).nm (R i).ma ((R i).kd.map tr) := by
  have h : ∀ m, m ≤ n → ∃ tr : Nat → Tr, ∀ i, n - m ≤ i → i < n → tr i = .node (R i).nm (R i).ma ((R i).kd.map tr) := by
    intro m
    induction m with
    | zero => exact fun _ => ⟨fun _ => .node "" 0 [], fun i h1 h2 => absurd h2 (by omega)⟩
    | succ m ih =>
      intro hm
      obtain ⟨tr, ht⟩ := ih (by omega)
      refine ⟨fun i => if i = n - (m + 1) then .node (R i).nm (R i).ma ((R i).kd.map tr) else tr i, fun i h1 h2 => ?_⟩
      have keep : ∀ i, n - (m + 1) ≤ i → i < n → (R i).kd.map (fun i => if i = n - (m + 1) then Tr.node (R i).nm (R i).ma ((R i).kd.map tr) else tr i) = (R i).kd.map tr := fun i a b => List.map_congr_left fun j hj => by
        have := (ok.kid i b j hj).1
        show (if j = n - (m + 1) then _ else _) = _
        rw [if_neg (by omega)]
      rw [keep i h1 h2]
      by_cases e : i = n - (m + 1)
      · show (if i = n - (m + 1) then _ else _) = _
        rw [if_pos e]
      · show (if i = n - (m + 1) then _ else _) = _
        rw [if_neg e]
        exact ht i (by omega) h2
  obtain ⟨tr, ht⟩ := h n (Nat.le_refl _)
  exact ⟨tr, fun i hi => ht i (by omega) hi⟩
section
variable {most n : Nat} {R : Nat → Rw} {tr : Nat → Tr}
theorem tree_size (ok : RwOk most n R) (h : ∀ i, i < n → tr i = .node (R i).nm (R i).ma ((R i).kd.map tr)) : size (tr 0) = n := by
  have t := ok.tot fun j => size (tr j)
  have e : sumTo n (fun j => size (tr j)) = sumTo n (fun i => 1 + ((R i).kd.map fun j => size (tr j)).sum) := sumTo_congr fun i hi => by
    rw [h i hi, size, sizes_map]
  rw [sumTo_add, sumTo_one] at e
  omega
theorem tree_deep (ok : RwOk most n R) (h : ∀ i, i < n → tr i = .node (R i).nm (R i).ma ((R i).kd.map tr)) : ∀ m i, n - i ≤ m → i < n → deep (tr i) + (R i).lv ≤ most + 1 := by
  intro m
  induction m with
  | zero => intro i h1 h2; omega
  | succ m ih =>
    intro i h1 h2
    rw [h i h2, deep]
    have hl := (ok.lev i h2).2
    have : deeps ((R i).kd.map tr) ≤ most - (R i).lv := deeps_le fun t ht => by
      obtain ⟨j, hj, rfl⟩ := List.mem_map.mp ht
      obtain ⟨a, b, c⟩ := ok.kid i h2 j hj
      have := ih j (by omega) b
      omega
    omega
inductive Wt : Tr → Prop
  | node {nm : Str} {mk : Int} {bs : List Tr} : NmOk nm → 0 ≤ mk → mk < 1000000000000000000 → (∀ b ∈ bs, Wt b) → Wt (.node nm mk bs)
theorem tree_wt (ok : RwOk most n R) (h : ∀ i, i < n → tr i = .node (R i).nm (R i).ma ((R i).kd.map tr)) : ∀ m i, n - i ≤ m → i < n → Wt (tr i) := by
  intro m
  induction m with
  | zero => intro i h1 h2; omega
  | succ m ih =>
    intro i h1 h2
    rw [h i h2]
    refine .node (ok.nms i h2) (ok.mks i h2).1 (ok.mks i h2).2 fun b hb => ?_
    obtain ⟨j, hj, rfl⟩ := List.mem_map.mp hb
    obtain ⟨a, b, c⟩ := ok.kid i h2 j hj
    exact ih j (by omega) b
end
inductive Al (H : Hp) : Nat → V → V → Prop
  | str {n : Nat} (z : Str) : Al H n (.str z) (.str z)
  | int {n : Nat} (i : Int) : Al H n (.int i) (.int i)
  | tup {n : Nat} {a b : Addr} {xs ys : List V} : H a = some (.tup xs) → H b = some (.tup ys) → ys.length = xs.length → xs.length ≤ 1000 → (∀ (i : Nat) (x y : V), xs[i]? = some x → ys[i]? = some y → Al H n x y) → Al H (n + 1) (.ref a) (.ref b)
theorem Al.same {H H' : Hp} (s : Same H H') {n : Nat} {v u : V} (h : Al H n v u) : Al H' n v u := by
  induction h with
  | str z => exact .str z
  | int i => exact .int i
  | tup ha hb e hl _ ih => exact .tup (s _ _ ha) (s _ _ hb) e hl ih
theorem Al.mono {H : Hp} {n : Nat} {v u : V} (h : Al H n v u) : ∀ {m : Nat}, n ≤ m → Al H m v u := by
  induction h with
  | str z => exact fun _ => .str z
  | int i => exact fun _ => .int i
  | tup ha hb e hl _ ih =>
    intro m hm
    obtain ⟨k, rfl⟩ : ∃ k, m = k + 1 := ⟨m - 1, by omega⟩
    exact .tup ha hb e hl fun i x y hx hy => ih i x y hx hy (by omega)
theorem al_two {H : Hp} {n : Nat} {a b : Addr} {x1 x2 y1 y2 : V} (ha : H a = some (.tup [x1, y1])) (hb : H b = some (.tup [x2, y2])) (h1 : Al H n x1 x2) (h2 : Al H n y1 y2) : Al H (n + 1) (.ref a) (.ref b) :=
  .tup ha hb rfl (by show 2 ≤ 1000; decide) fun i x y hx hy => by
    match i with
    | 0 => cases hx; cases hy; exact h1
    | 1 => cases hx; cases hy; exact h2
    | i + 2 => simp at hx
theorem al_three {H : Hp} {n : Nat} {a b : Addr} {x1 x2 y1 y2 z1 z2 : V} (ha : H a = some (.tup [x1, y1, z1])) (hb : H b = some (.tup [x2, y2, z2])) (h1 : Al H n x1 x2) (h2 : Al H n y1 y2) (h3 : Al H n z1 z2) : Al H (n + 1) (.ref a) (.ref b) :=
  .tup ha hb rfl (by show 3 ≤ 1000; decide) fun i x y hx hy => by
    match i with
    | 0 => cases hx; cases hy; exact h1
    | 1 => cases hx; cases hy; exact h2
    | 2 => cases hx; cases hy; exact h3
    | i + 3 => simp at hx
theorem al_list {H : Hp} {α : Type} {R : α → V → Prop} {n : Nat} : ∀ {as : List α} {vs us : List V}, (∀ a ∈ as, ∀ v u, R a v → R a u → Al H n v u) → L2R R as vs → L2R R as us → ∀ (i : Nat) (x y : V), vs[i]? = some x → us[i]? = some y → Al H n x y
  | _, _, _, h, .nil, g, i, x, y, hx, hy => by simp at hx
  | a :: as, _, _, h, .cons r1 r2, .cons g1 g2, 0, x, y, hx, hy => by
    simp at hx hy
    subst hx hy
    exact h a (by simp) _ _ r1 g1
  | a :: as, _, _, h, .cons r1 r2, .cons g1 g2, i + 1, x, y, hx, hy => al_list (fun b hb => h b (by simp [hb])) r2 g2 i x y (by simpa using hx) (by simpa using hy)
theorem al_pth {H : Hp} {p : List Int} {v u : V} (h : PthIs H p v) (g : PthIs H p u) (hl : p.length ≤ 1000) : Al H 1 v u := by
  obtain ⟨a, rfl, ha⟩ := h
  obtain ⟨b, rfl, hb⟩ := g
  refine .tup ha hb rfl (by rw [List.length_map]; exact hl) fun i x y hx hy => ?_
  rw [hx] at hy
  cases hy
  rw [List.getElem?_map] at hx
  obtain ⟨n, _, rfl⟩ := Option.map_eq_some_iff.mp hx
  exact .int n
mutual
theorem al_tr {H : Hp} : ∀ (t : Tr) {v u : V}, TrIs H t v → TrIs H t u → size t ≤ 1000 → Al H (2 * deep t) v u
  | .node nm mk bs, v, u, h, g, hz => by
    unfold TrIs at h g
    obtain ⟨p, b, vs, rfl, h1, h2, h3⟩ := h
    obtain ⟨p', b', vs', rfl, g1, g2, g3⟩ := g
    rw [deep]
    rw [size] at hz
    have q : 2 * (1 + deeps bs) = (2 * deeps bs + 1) + 1 := by omega
    rw [q]
    have l1 := (trs_l2r h3).len
    have l2 := (trs_l2r g3).len
    have l3 := sizes_len bs
    exact al_three h1 g1 (.str _) (.int _) (.tup h2 g2 (by omega) (by omega) fun i x y hx hy => al_trs bs h3 g3 (by omega) i hx hy)
theorem al_trs {H : Hp} : ∀ (ts : List Tr) {vs us : List V}, TrsIs H ts vs → TrsIs H ts us → sizes ts ≤ 1000 → ∀ (i : Nat) {x y : V}, vs[i]? = some x → us[i]? = some y → Al H (2 * deeps ts) x y
  | [], vs, us, h, g, hz, i, x, y, hx, hy => by unfold TrsIs at h; subst h; simp at hx
  | t :: ts, vs, us, h, g, hz, i, x, y, hx, hy => by
    unfold TrsIs at h g
    obtain ⟨v, r, rfl, h1, h2⟩ := h
    obtain ⟨v', r', rfl, g1, g2⟩ := g
    rw [sizes] at hz
    have e : 2 * deeps (t :: ts) = max (2 * deep t) (2 * deeps ts) := by rw [deeps]; omega
    rw [e]
    cases i with
    | zero =>
      simp at hx hy
      subst hx hy
      exact (al_tr t h1 g1 (by omega)).mono (by omega)
    | succ i => exact (al_trs ts h2 g2 (by omega) i (by simpa using hx) (by simpa using hy)).mono (by omega)
end
end TR
set_option Elab.async false
set_option linter.all false
set_option maxRecDepth 100000
set_option maxHeartbeats 4000000
namespace K21
open PySem L2 TR
open TM
theorem iteNe {c A B : Prop} [Decidable c] (h1 : ¬ c → A) (h2 : c → B) : if (!decide c) = true then A else B := by
  by_cases h : c
  · rw [decide_eq_true h]
    exact iteF (h2 h)
  · rw [decide_eq_false h]
    exact iteT (h1 h)
theorem app_len (a b : Str) : (a ++ b).length = a.length + b.length := by rw [len_list, len_list, len_list, app_list, List.length_append]
theorem ne_of_none' {H : Hp} {a b : Addr} {o : HO} (h : H a = some o) (n : H b = none) : b ≠ a := fun z => by rw [z, h] at n; cases n
def spSame (n : Nat) : Sp := fun vs H Q _ => ∃ v1 v2, vs = [v1, v2] ∧ Al H n v1 v2 ∧ ∀ H', Same H H' → Q (.bl true) H'
def spWhl : Sp := fun vs H Q _ => ∃ i : Int, vs = [.int i] ∧ Q (.bl true) H
def spWord : Sp := fun vs H Q _ => ∃ c k : Int, vs = [.int c, .int k] ∧ ∀ z H', NmOk z → Same H H' → Q (.str z) H'
theorem fold_app : ∀ (l : List (Array Nat)) (acc : Array Nat), (l.foldl (· ++ ·) acc).toList = acc.toList ++ (l.map Array.toList).flatten
  | [], acc => by simp
  | a :: l, acc => by rw [List.foldl_cons, fold_app l]; simp
theorem mul_all (g : Nat) (n : Int) : ∀ c ∈ (Txt.mul ⟨#[g]⟩ n).cps.toList, c = g := by
  intro c hc
  unfold Txt.mul at hc
  split at hc
  · exact absurd hc (by simp [Str.empty])
  · split at hc
    · simpa using hc
    · rw [show ((⟨(List.replicate n.toNat (#[g] : Array Nat)).foldl (· ++ ·) #[]⟩ : Str)).cps.toList = _ from fold_app _ _] at hc
      simp only [List.map_replicate, List.nil_append, List.mem_flatten] at hc
      obtain ⟨l, hl, h⟩ := hc
      have h1 : 0 < n ∧ l = [g] := by simpa using hl
      rw [h1.2] at h
      simpa using h
abbrev letters26 : Str := "abcdefghijklmnopqrstuvwxyz"
theorem at_letters {m : Int} (h0 : 0 ≤ m) (h1 : m < 26) : ∃ c, atI letters26.cps.toList m = some c ∧ c ∈ letters26.cps.toList := by
  obtain ⟨k, rfl⟩ := Int.eq_ofNat_of_zero_le h0
  have hl : letters26.cps.toList.length = 26 := by decide +kernel
  exact ⟨_, atI_nat (List.getElem?_eq_getElem (by omega)), List.getElem_mem _⟩
theorem let_in : ∀ c ∈ letters26.cps.toList, letOk c = true := by decide +kernel
theorem at_mod26 (c : Int) : ∃ g, atI letters26.cps.toList (c % 26) = some g ∧ letOk g = true := by
  obtain ⟨g, h, m⟩ := at_letters (Int.emod_nonneg c (show (26 : Int) ≠ 0 by decide)) (Int.emod_lt_of_pos c (show (0 : Int) < 26 by decide))
  exact ⟨g, h, let_in g m⟩
theorem mul1_len (g : Nat) {n : Int} (h0 : 0 ≤ n) : ((Txt.mul ⟨#[g]⟩ n).length : Int) = n := by
  have e := PyProof.Rows.len_mul ⟨#[g]⟩ n
  have e1 : (Str.length ⟨#[g]⟩) = 1 := rfl
  rw [e1, if_neg (by simpa using h0)] at e
  omega
theorem seq_setC {v : V} {i : Nat} {rest : TS} {D : Ends} {σ : St} {H : Hp} (h : rest D (σ.set i (some v)) H) : tSeq (tAsg (tC v) (gName i)) rest D σ H := h
section
variable {P : Program} {w : World} {K : PySem.W.Frag} {mg : Str → Option Value} {base : Heap} {T : Adr}
theorem ok_whole' (X : Tx K mg T) : FnOk P w K mg base CX0 1 T.qwhole T.d_qwhole ["_law_found"] spWhl := by
  refine X.F_qwhole.okQ sc_qwhole (fun vs H Q E h => ?_) (fun cdv A outer s H vs Q E hr h => ?_)
  · obtain ⟨_, rfl, _⟩ := h
    rfl
  obtain ⟨i, rfl, q⟩ := h
  refine ⟨_, (qss_one (qs_ret (qe_and (qe_callB call_isinst rfl X.z_isinstance PyProof.Rows.boot_isinstance (qaN (qv 0) (qaN (qe_bltn rfl X.z_int PyProof.Rows.boot_int rfl (v := .ty "int")) qa_nil))) (qe_one (qe_not (qe_callB call_isinst rfl X.z_isinstance PyProof.Rows.boot_isinstance (qaN (qv 0) (qaN (qe_bltn rfl X.z_bool PyProof.Rows.boot_bool rfl (v := .ty "bool")) qa_nil)))))))), ?_⟩
  exact ⟨_, rfl, _, "int", _, _, rfl, .int i, k_ii, _, rfl, iteT ⟨_, rfl, _, "bool", _, _, rfl, .int i, k_ib, _, rfl, q⟩⟩
theorem ok_same (X : Tx K mg T) : ∀ n : Nat, FnOk P w K mg base CX0 (n + 2) T.qsame T.d_qsame ["_law_found", "_law_due"] (spSame n) := by
  intro n
  induction n with
  | zero =>
    have G_qwhole := ok_whole' (P := P) (w := w) (base := base) X
    have G_qsame : FnOk P w K mg base CX0 0 T.qsame T.d_qsame ["_law_found", "_law_due"] (fun _ _ _ _ => False) := ⟨fun _ _ _ _ h => h.elim, fun _ _ _ _ _ _ _ _ _ _ _ _ _ h => h.elim⟩
    have G_qsame := G_qsame.mono (show 0 ≤ 1 by decide)
    refine X.F_qsame.okQ sc_qsame (fun vs H Q E h => ?_) (fun cdv A outer s H vs Q E hr h => ?_)
    · obtain ⟨_, _, rfl, _⟩ := h
      rfl
    obtain ⟨v1, v2, rfl, al, q⟩ := h
    refine ⟨_, (qss_cons (qs_if (qt_val (qe_callB call_isinst rfl X.z_isinstance PyProof.Rows.boot_isinstance (qaN (qv 1) (qaN (qe_bltn rfl X.z_str PyProof.Rows.boot_str rfl (v := .ty "str")) qa_nil)))) (qss_one (qs_ret (qe_and (qe_callB call_isinst rfl X.z_isinstance PyProof.Rows.boot_isinstance (qaN (qv 0) (qaN (qe_bltn rfl X.z_str PyProof.Rows.boot_str rfl (v := .ty "str")) qa_nil))) (qe_one (qe_cmpR op_eq (qv 0) (qv 1) (nomark _)))))) qss_nil) (qss_cons (qs_if (qt_not (qt_val (qe_callB call_isinst rfl X.z_isinstance PyProof.Rows.boot_isinstance (qaN (qv 1) (qaN (qe_bltn rfl X.z_tuple PyProof.Rows.boot_tuple rfl (v := .ty "tuple")) qa_nil))))) (qss_one (qs_ret (qe_and (qe_call G_qwhole hr rfl X.m_qwhole X.F_qwhole.kp X.b_qwhole .nil pass0 (qaN (qv 0) qa_nil)) (qe_one (qe_cmpR op_eq (qv 0) (qv 1) (nomark _)))))) qss_nil) (qss_cons (qs_if (qw_pt (qw_or (qt_not (qt_val (qe_callB call_isinst rfl X.z_isinstance PyProof.Rows.boot_isinstance (qaN (qv 0) (qaN (qe_bltn rfl X.z_tuple PyProof.Rows.boot_tuple rfl (v := .ty "tuple")) qa_nil))))) (qw_or1 (qt_cmpR op_ne (qe_callB (call_len_seq.or call_len_str) rfl X.z_len PySem.boot_len (qaN (qv 0) qa_nil)) (qe_callB (call_len_seq.or call_len_str) rfl X.z_len PySem.boot_len (qaN (qv 1) qa_nil)) (nomark _))))) qss_never qss_nil) (qss_cons (qs_for PassesOwn.never rfl (qi_zipT rfl X.z_zip (qaN (qv 0) (qaN (qv 1) qa_nil))) (qg_tup rfl (qgs_cons (qg_name (i := 2) sc_qsame.nd rfl (Or.inl rfl)) (qgs_cons (qg_name (i := 3) sc_qsame.nd rfl (Or.inl rfl)) qgs_nil))) (qss_one (qs_if (qt_not (qt_val (qe_call G_qsame hr rfl X.m_qsame X.F_qsame.kp X.b_qsame .nil pass0 (qaN (qv 2) (qaN (qv 3) qa_nil))))) qss_never qss_nil))) (qss_one (qs_ret qe_bl)))))), ?_⟩
    have qs := q H (Same.refl H)
    cases al with
    | str z => exact ⟨_, rfl, _, "str", _, _, rfl, .str z, k_ss, _, rfl, iteT ⟨_, rfl, _, "str", _, _, rfl, .str z, k_ss, _, rfl, iteT ⟨_, rfl, _, rfl, rfl, by rw [decide_eq_true rfl]; exact qs⟩⟩⟩
    | int i => exact ⟨_, rfl, _, "str", _, _, rfl, .int i, k_is', _, rfl, iteF ⟨_, rfl, _, "tuple", _, _, rfl, .int i, k_it, _, rfl, iteT ⟨_, rfl, i, rfl, _, rfl, iteT ⟨_, rfl, _, rfl, rfl, by rw [decide_eq_true rfl]; exact qs⟩⟩⟩⟩
  | succ n ih =>
    have G_qwhole := (ok_whole' (P := P) (w := w) (base := base) X).mono (show 1 ≤ n + 2 by omega)
    have G_qsame := ih
    refine X.F_qsame.okQ sc_qsame (fun vs H Q E h => ?_) (fun cdv A outer s H vs Q E hr h => ?_)
    · obtain ⟨_, _, rfl, _⟩ := h
      rfl
    obtain ⟨v1, v2, rfl, al, q⟩ := h
    refine ⟨_, (qss_cons (qs_if (qt_val (qe_callB call_isinst rfl X.z_isinstance PyProof.Rows.boot_isinstance (qaN (qv 1) (qaN (qe_bltn rfl X.z_str PyProof.Rows.boot_str rfl (v := .ty "str")) qa_nil)))) (qss_one (qs_ret (qe_and (qe_callB call_isinst rfl X.z_isinstance PyProof.Rows.boot_isinstance (qaN (qv 0) (qaN (qe_bltn rfl X.z_str PyProof.Rows.boot_str rfl (v := .ty "str")) qa_nil))) (qe_one (qe_cmpR op_eq (qv 0) (qv 1) (nomark _)))))) qss_nil) (qss_cons (qs_if (qt_not (qt_val (qe_callB call_isinst rfl X.z_isinstance PyProof.Rows.boot_isinstance (qaN (qv 1) (qaN (qe_bltn rfl X.z_tuple PyProof.Rows.boot_tuple rfl (v := .ty "tuple")) qa_nil))))) (qss_one (qs_ret (qe_and (qe_call G_qwhole hr rfl X.m_qwhole X.F_qwhole.kp X.b_qwhole .nil pass0 (qaN (qv 0) qa_nil)) (qe_one (qe_cmpR op_eq (qv 0) (qv 1) (nomark _)))))) qss_nil) (qss_cons (qs_if (qw_pt (qw_or (qt_not (qt_val (qe_callB call_isinst rfl X.z_isinstance PyProof.Rows.boot_isinstance (qaN (qv 0) (qaN (qe_bltn rfl X.z_tuple PyProof.Rows.boot_tuple rfl (v := .ty "tuple")) qa_nil))))) (qw_or1 (qt_cmpR op_ne (qe_callB (call_len_seq.or call_len_str) rfl X.z_len PySem.boot_len (qaN (qv 0) qa_nil)) (qe_callB (call_len_seq.or call_len_str) rfl X.z_len PySem.boot_len (qaN (qv 1) qa_nil)) (nomark _))))) qss_never qss_nil) (qss_cons (qs_for PassesOwn.never rfl (qi_zipT rfl X.z_zip (qaN (qv 0) (qaN (qv 1) qa_nil))) (qg_tup rfl (qgs_cons (qg_name (i := 2) sc_qsame.nd rfl (Or.inl rfl)) (qgs_cons (qg_name (i := 3) sc_qsame.nd rfl (Or.inl rfl)) qgs_nil))) (qss_one (qs_if (qt_not (qt_val (qe_call G_qsame hr rfl X.m_qsame X.F_qsame.kp X.b_qsame .nil pass0 (qaN (qv 2) (qaN (qv 3) qa_nil))))) qss_never qss_nil))) (qss_one (qs_ret qe_bl)))))), ?_⟩
    have qs := q H (Same.refl H)
    cases al with
    | str z => exact ⟨_, rfl, _, "str", _, _, rfl, .str z, k_ss, _, rfl, iteT ⟨_, rfl, _, "str", _, _, rfl, .str z, k_ss, _, rfl, iteT ⟨_, rfl, _, rfl, rfl, by rw [decide_eq_true rfl]; exact qs⟩⟩⟩
    | int i => exact ⟨_, rfl, _, "str", _, _, rfl, .int i, k_is', _, rfl, iteF ⟨_, rfl, _, "tuple", _, _, rfl, .int i, k_it, _, rfl, iteT ⟨_, rfl, i, rfl, _, rfl, iteT ⟨_, rfl, _, rfl, rfl, by rw [decide_eq_true rfl]; exact qs⟩⟩⟩⟩
    | @tup _ a b xs ys ha hb e hl hi =>
      refine ⟨_, rfl, _, "str", _, _, rfl, .tup hb, k_ts, _, rfl, iteF ⟨_, rfl, _, "tuple", _, _, rfl, .tup hb, k_tt, _, rfl, iteF ⟨_, rfl, _, "tuple", _, _, rfl, .tup ha, k_tt, _, rfl, iteF ?_⟩⟩⟩
      refine ⟨_, rfl, .inl ⟨a, xs, rfl, .inr (SqT.of ha), _, rfl, .inl ⟨b, ys, rfl, .inr (SqT.of hb), rfl, _, rfl, iteNS (by rw [e]) ?_⟩⟩⟩
      refine ⟨_, rfl, _, rfl, a, b, xs, ys, rfl, SqT.of ha, SqT.of hb, e, for_wt (fun i σ H' => (∃ x2 x3, σ = [some (.ref a), some (.ref b), x2, x3]) ∧ Same H H') ⟨⟨none, none, rfl⟩, Same.refl _⟩ (fun i σ H' _ ⟨_, sm⟩ => ⟨SqT.of (sm _ _ ha), SqT.of (sm _ _ hb)⟩) ?_ ?_⟩
      · rintro i T' vs' σ H' hlt ⟨x, y, hx, hy, rfl⟩ ⟨⟨x2, x3, rfl⟩, sm⟩ hT
        have s1 := same_new hT (.tup [x, y])
        refine ⟨T', _, rfl, SqT.of upd_same, rfl, _, _, rfl, _, _, rfl, rfl, ?_⟩
        exact ⟨_, rfl, _, rfl, x, y, rfl, ((hi i x y hx hy).same sm).same s1, fun H2 s2 => ⟨_, rfl, iteF ⟨⟨_, _, rfl⟩, (sm.trans s1).trans s2⟩⟩⟩
      · rintro σ H' ⟨⟨x2, x3, rfl⟩, sm⟩
        exact q H' sm
theorem ok_word (X : Tx K mg T) : FnOk P w K mg base CX0 1 T.qword T.d_qword ["_law_cell", "_law_k"] spWord := by
  refine X.F_qword.okQ sc_qword (fun vs H Q E h => ?_) (fun cdv A outer s H vs Q E hr h => ?_)
  · obtain ⟨_, _, rfl, _⟩ := h
    rfl
  obtain ⟨c, k, rfl, q⟩ := h
  refine ⟨_, (qss_cons (qs_set (i := 2) sc_qword.nd rfl (Or.inl rfl) qe_str) (qss_cons (qs_set (i := 3) sc_qword.nd rfl (Or.inl rfl) (qe_op op_add qe_int (qe_op op_mod (qv 0) qe_int))) (qss_cons (qs_set (i := 4) sc_qword.nd rfl (Or.inl rfl) (qe_op op_mod (qe_op op_fdiv (qv 0) qe_int) (qv 3))) (qss_cons (qs_set (i := 5) sc_qword.nd rfl (Or.inl rfl) (qe_ix ix_str (qv 2) (qe_op op_mod (qe_op op_fdiv (qv 0) qe_int) qe_int) (fun _ _ => rfl))) (qss_one (qs_ret (qe_op op_add_str (qe_op op_add_str (qe_op op_rep_str (qv 5) (qv 4)) (qe_ix ix_str (qv 2) (qe_op op_mod (qe_op op_add (qe_op op_fdiv (qv 0) qe_int) (qv 1)) qe_int) (fun _ _ => rfl))) (qe_op op_rep_str (qv 5) (qe_op op_sub (qe_op op_sub (qv 3) (qv 4)) qe_int))))))))), ?_⟩
  refine seq_setC ?_
  have c0 := Int.emod_nonneg c (show (8 : Int) ≠ 0 by decide)
  have c1 := Int.emod_lt_of_pos c (show (0 : Int) < 8 by decide)
  have hpos : (0 : Int) < 1 + c % 8 := by omega
  have a0 := Int.emod_nonneg (c / 8) (show (1 + c % 8 : Int) ≠ 0 by omega)
  have a1 := Int.emod_lt_of_pos (c / 8) hpos
  obtain ⟨g, hg, lg⟩ := at_mod26 (c / 64)
  obtain ⟨g2, hg2, lg2⟩ := at_mod26 (c / 1664 + k)
  refine ⟨_, rfl, _, _, rfl, rfl, (by show (0 : Int) < 8; decide), _, _, rfl, rfl, ?_⟩
  refine ⟨_, rfl, _, _, rfl, rfl, ⟨by decide, by decide⟩, _, rfl, _, _, rfl, rfl, hpos, ?_⟩
  refine ⟨_, rfl, _, rfl, _, _, rfl, rfl, ⟨by decide, by decide⟩, _, _, rfl, rfl, (by show (0 : Int) < 26; decide), letters26, _, g, rfl, rfl, (by decide +kernel), hg, ?_⟩
  have l1 := mul1_len g (n := c / 8 % (1 + c % 8)) (by omega)
  have l2 := mul1_len g (n := 1 + c % 8 - c / 8 % (1 + c % 8) - 1) (by omega)
  have e1 : (Str.length ⟨#[g]⟩) = 1 := rfl
  have e2 : (Str.length ⟨#[g2]⟩) = 1 := rfl
  refine ⟨_, rfl, _, rfl, _, _, rfl, rfl, (by rw [e1]; decide), by omega, by omega, _, rfl, _, rfl, _, _, rfl, rfl, ⟨by decide, by decide⟩, _, rfl, _, _, rfl, rfl, _, _, rfl, rfl, (by show (0 : Int) < 26; decide), letters26, _, g2, rfl, rfl, (by decide +kernel), hg2, _, _, rfl, rfl, fits2 (by omega), ?_⟩
  refine ⟨_, rfl, _, rfl, _, rfl, _, _, rfl, rfl, _, _, rfl, rfl, _, _, rfl, rfl, (by rw [e1]; decide), by omega, by omega, _, _, rfl, rfl, fits2 (by rw [app_len]; omega), q _ _ ⟨?_, ?_, ?_⟩ (Same.refl _)⟩
  · rw [app_list, app_list]
    simp
  · rw [← len_list, app_len, app_len]
    omega
  · intro x hx
    rw [app_list, app_list] at hx
    simp only [List.mem_append] at hx
    rcases hx with (h | h) | h
    · rw [mul_all g _ x h]; exact lg
    · have : x = g2 := by simpa using h
      rw [this]; exact lg2
    · rw [mul_all g _ x h]; exact lg
end
end K21
set_option Elab.async false
set_option linter.all false
set_option maxRecDepth 100000
set_option maxHeartbeats 4000000
namespace K21
open PySem L2 TR
open TM
abbrev kdV (ks : List Nat) : List V := ks.map fun (j : Nat) => V.int (j : Int)
theorem qe_dnewK {X : Cx} {pos : Pos} : QE X (.Dict [] [] pos) tDNewK := ⟨pe_dnewK⟩
def setN (f : Nat → Addr) (n : Nat) (a : Addr) : Nat → Addr := fun j => if j = n then a else f j
theorem setN_at {f : Nat → Addr} {n j : Nat} {a : Addr} (e : j = n) : setN f n a j = a := if_pos e
theorem setN_ne {f : Nat → Addr} {n j : Nat} {a : Addr} (e : ¬ j = n) : setN f n a j = f j := if_neg e
structure RowsAt (B H : Hp) (D : Addr) (n : Nat) (R : Nat → Rw) : Prop where
  sm : Same B H
  nD : B D = none
  ex : ∃ Pa La : Nat → Addr, H D = some (.lst ((List.range n).map fun i => V.ref (Pa i))) ∧ (∀ i, i < n → H (Pa i) = some (.lst [.str (R i).nm, .int (R i).ma, .ref (La i), .int ((R i).lv : Int)])) ∧
    (∀ i, i < n → H (La i) = some (.lst (kdV (R i).kd))) ∧ (∀ i, i < n → B (La i) = none) ∧ ∀ i j, i < n → j < n → La i = La j → i = j
theorem lst_ne1 {H : Hp} {a b : Addr} {x : Str} {xs : List V} {ks : List Nat} (h : H a = some (.lst (.str x :: xs))) (g : H b = some (.lst (kdV ks))) : a ≠ b := ne_of h g (fun z => by
  cases ks with
  | nil => cases z
  | cons k ks => cases z)
theorem range_at {Pa : Nat → Addr} {n i : Nat} (h : i < n) : ((List.range n).map fun i => V.ref (Pa i))[i]? = some (.ref (Pa i)) := by
  rw [List.getElem?_map, List.getElem?_range h]
  rfl
theorem D_ne_L {H : Hp} {D l : Addr} {Pa : Nat → Addr} {n : Nat} {ks : List Nat} (hn : 1 ≤ n) (h : H D = some (.lst ((List.range n).map fun i => V.ref (Pa i)))) (g : H l = some (.lst (kdV ks))) : D ≠ l := ne_of h g (fun z => by
  have e := HO.lst.inj z
  have h0 := range_at (Pa := Pa) (n := n) (i := 0) hn
  rw [e] at h0
  cases ks with
  | nil => cases h0
  | cons k ks => cases h0)
theorem D_ne_P {H : Hp} {D p : Addr} {Pa : Nat → Addr} {n : Nat} {x : Str} {xs : List V} (hn : 1 ≤ n) (h : H D = some (.lst ((List.range n).map fun i => V.ref (Pa i)))) (g : H p = some (.lst (.str x :: xs))) : D ≠ p := ne_of h g (fun z => by
  have e := HO.lst.inj z
  have h0 := range_at (Pa := Pa) (n := n) (i := 0) hn
  rw [e] at h0
  cases h0)
theorem atI_range {Pa : Nat → Addr} {n u : Nat} (h : u < n) : atI ((List.range n).map fun i => V.ref (Pa i)) (u : Int) = some (.ref (Pa u)) := atI_nat (range_at h)
def spBuilt (K : PySem.W.Frag) : Sp := fun vs H Q _ => ∃ (a : Addr) (ns : List Int) (wd : Int) (most : Nat), vs = [.ref a, .int wd, .int (most : Int)] ∧ SqL K H a (ns.map V.int) ∧ ns.length ≤ 63 ∧ 2 ≤ most ∧
  ∀ t v H', Same H H' → TrIs H' t v → Wt t → size t ≤ 60 → deep t ≤ most → Q v H'
theorem seq_if_set {c : TT} {v : V} {i : Nat} {rest : TS} {D : Ends} {σ σ' : St} {H : Hp} (b : Bool) (hc : ∀ Q : Bool → Hp → Prop, Q b H → c σ H Q) (e : (if b = true then σ.set i (some v) else σ) = σ') (h : rest D σ' H) : tSeq (tIfS c (tAsg (tC v) (gName i)) tNext) rest D σ H := by
  subst e
  refine hc _ ?_
  cases b with
  | true => exact h
  | false => exact h
theorem mark_at {g : Int} (h0 : 0 ≤ g) (h1 : g < 1000000000000000000) : ∃ m : Int, atI [V.int 0, .int (g / 11 % 10), .int g] (g / 7 % 3) = some (.int m) ∧ 0 ≤ m ∧ m < 1000000000000000000 := by
  have a0 := Int.emod_nonneg (g / 7) (show (3 : Int) ≠ 0 by decide)
  have a1 := Int.emod_lt_of_pos (g / 7) (show (0 : Int) < 3 by decide)
  have b0 := Int.emod_nonneg (g / 11) (show (10 : Int) ≠ 0 by decide)
  have b1 := Int.emod_lt_of_pos (g / 11) (show (0 : Int) < 10 by decide)
  have : g / 7 % 3 = 0 ∨ g / 7 % 3 = 1 ∨ g / 7 % 3 = 2 := by omega
  rcases this with e | e | e <;> rw [e]
  · exact ⟨0, rfl, by omega, by omega⟩
  · exact ⟨_, rfl, b0, by omega⟩
  · exact ⟨g, rfl, h0, h1⟩
theorem up_at {n : Nat} (hn : 1 ≤ n) (g : Int) (b : Bool) : ∃ u : Nat, u < n ∧ atI [V.int ((n : Int) - 1), .int (g / 5 % (n : Int))] (if b then 1 else 0) = some (.int (u : Int)) := by
  have a0 := Int.emod_nonneg (g / 5) (show (n : Int) ≠ 0 by omega)
  have a1 := Int.emod_lt_of_pos (g / 5) (show (0 : Int) < (n : Int) by omega)
  cases b with
  | false => exact ⟨n - 1, by omega, by rw [show ((n - 1 : Nat) : Int) = (n : Int) - 1 by omega]; rfl⟩
  | true =>
    obtain ⟨u, hu⟩ := Int.eq_ofNat_of_zero_le a0
    exact ⟨u, by omega, by rw [hu]; rfl⟩
section
variable {P : Program} {w : World} {K : PySem.W.Frag} {mg : Str → Option Value} {base : Heap} {T : Adr}
theorem ok_built (X : Tx K mg T) : FnOk P w K mg base CX0 2 T.qbuilt T.d_qbuilt ["_law_script", "_law_word_here", "_law_most"] (spBuilt K) := by
  have G_qword := ok_word (P := P) (w := w) (base := base) X
  refine X.F_qbuilt.okQ sc_qbuilt (fun vs H Q E h => ?_) (fun cdv A outer s H vs Q E hr h => ?_)
  · obtain ⟨_, _, _, _, rfl, _⟩ := h
    rfl
  obtain ⟨a, ns, wd, most, rfl, hS, h63, hm2, q⟩ := h
  refine ⟨_, (qss_cons (qs_set (i := 3) sc_qbuilt.nd rfl (Or.inl rfl) (qe_lst (qaL (qe_lst (qaK (qe_call G_qword hr rfl X.m_qword X.F_qword.kp X.b_qword .nil pass0 (qaN (qv 1) (qaC qe_int qa_nil))) (qaC qe_int (qaL (qe_lst qa_nil) (qaC qe_int qa_nil))))) qa_nil))) (qss_cons (qs_for PassesOwn.never rfl (qi_list (qe_slice sl_list (qv 0) qo_none (qo_some qe_int))) (qg_name (i := 4) sc_qbuilt.nd rfl (Or.inl rfl)) (qss_cons (qs_set (i := 5) sc_qbuilt.nd rfl (Or.inl rfl) (qe_op op_mod (qv 4) (qe_op op_pow qe_int qe_int))) (qss_cons (qs_set (i := 6) sc_qbuilt.nd rfl (Or.inl rfl) (qe_ix ix_list (qe_lst (qaB (qe_op op_sub (qe_callB call_len_seq rfl X.z_len PySem.boot_len (qaN (qv 3) qa_nil)) qe_int) (qaB (qe_op op_mod (qe_op op_fdiv (qv 5) qe_int) (qe_callB call_len_seq rfl X.z_len PySem.boot_len (qaN (qv 3) qa_nil))) qa_nil))) (qe_callTy call_int1 rfl X.z_int PyProof.Rows.boot_int (qaM (qe_cmpR op_gt (qe_op op_mod (qv 5) qe_int) qe_int (nomark _)) qa_nil)) (fun _ _ => rfl))) (qss_cons (qs_if (qt_cmpR op_ge (qe_ix ix_list (qe_ix ix_list (qv 3) (qv 6) (fun _ _ => rfl)) qe_int (fun _ _ => rfl)) (qv 2) (nomark _)) (qss_one (qs_set (i := 6) sc_qbuilt.nd rfl (Or.inl rfl) qe_int)) qss_nil) (qss_cons (qs_set (i := 7) sc_qbuilt.nd rfl (Or.inl rfl) (qe_ix ix_list (qe_lst (qaC qe_int (qaB (qe_op op_mod (qe_op op_fdiv (qv 5) qe_int) qe_int) (qaN (qv 5) qa_nil)))) (qe_op op_mod (qe_op op_fdiv (qv 5) qe_int) qe_int) (fun _ _ => rfl))) (qss_cons (qs_expr (qe_bm PySem.F.plainAttrs_list PySem.F.slot_list_insert PySem.F.type_list_insert mt_insert (qe_ix ix_list (qe_ix ix_list (qv 3) (qv 6) (fun _ _ => rfl)) qe_int (fun _ _ => rfl)) (qaB (qe_op op_mod (qe_op op_fdiv (qv 5) qe_int) (qe_op op_add (qe_callB call_len_seq rfl X.z_len PySem.boot_len (qaS (qe_ix ix_list (qe_ix ix_list (qv 3) (qv 6) (fun _ _ => rfl)) qe_int (fun _ _ => rfl)) qa_nil)) qe_int)) (qaK (qe_callB call_len_seq rfl X.z_len PySem.boot_len (qaN (qv 3) qa_nil)) qa_nil)))) (qss_one (qs_expr (qe_bm PySem.F.plainAttrs_list PySem.F.slot_list_append PySem.F.type_list_append mt_append (qv 3) (qaL (qe_lst (qaK (qe_call G_qword hr rfl X.m_qword X.F_qword.kp X.b_qword .nil pass0 (qaN (qv 1) (qaB (qe_op op_mod (qe_op op_fdiv (qv 5) qe_int) qe_int) qa_nil))) (qaN (qv 7) (qaL (qe_lst qa_nil) (qaB (qe_op op_add (qe_ix ix_list (qe_ix ix_list (qv 3) (qv 6) (fun _ _ => rfl)) qe_int (fun _ _ => rfl)) qe_int) qa_nil))))) qa_nil)))))))))) (qss_cons (qs_set (i := 8) sc_qbuilt.nd rfl (Or.inr rfl) qe_dnewK) (qss_cons (qs_for PassesOwn.never rfl (qi_revR rfl rfl X.z_reversed rfl X.z_range (qe_callB call_len_seq rfl X.z_len PySem.boot_len (qaN (qv 3) qa_nil))) (qg_name (i := 9) sc_qbuilt.nd rfl (Or.inl rfl)) (qss_one (qs_dput (hu_of hr) (qv 8) (qv 9) (qe_tup (qaS (qe_ix ix_list (qe_ix ix_list (qv 3) (qv 9) (fun _ _ => rfl)) qe_int (fun _ _ => rfl)) (qaS (qe_ix ix_list (qe_ix ix_list (qv 3) (qv 9) (fun _ _ => rfl)) qe_int (fun _ _ => rfl)) (qaK (qe_callTy call_tuple_of rfl X.z_tuple PyProof.Rows.boot_tuple (qaE (qe_comp (ys := ["_law_made"]) (js := [8]) rfl rfl (qi_list (qe_ix ix_list (qe_ix ix_list (qv 3) (qv 9) (fun _ _ => rfl)) qe_int (fun _ _ => rfl))) (fun _ _ _ _ _ => qif_nil) (fun _ _ _ _ _ => (qe_dget (hu_of hr) (qv 1) (qv 0)))) qa_nil)) qa_nil)))) rfl))) (qss_one (qs_ret (qe_dget (hu_of hr) (qv 8) qe_int))))))), ?_⟩
  refine ⟨_, rfl, _, _, rfl, fun z0 H1 ok0 s1 => ⟨(by show 0 ≤ sizeLine; decide), fun L0 hL0 => ⟨(by show 4 ≤ sizeLine; decide), fun P0 hP0 => ⟨(by show 1 ≤ sizeLine; decide), fun D hD => ?_⟩⟩⟩⟩
  have t1 := same_new hL0 (.lst [])
  have t2 := same_new hP0 (.lst [.str z0, .int 0, .ref L0, .int 1])
  have t3 := same_new hD (.lst [.ref P0])
  have fL : H L0 = none := s1.free hL0
  have fD : H D = none := (s1.trans (t1.trans t2)).free hD
  have hL : upd (upd (upd H1 L0 (.lst [])) P0 (.lst [.str z0, .int 0, .ref L0, .int 1])) D (.lst [.ref P0]) L0 = some (.lst []) := t3 _ _ (t2 _ _ upd_same)
  have hP : upd (upd (upd H1 L0 (.lst [])) P0 (.lst [.str z0, .int 0, .ref L0, .int 1])) D (.lst [.ref P0]) P0 = some (.lst [.str z0, .int 0, .ref L0, .int 1]) := t3 _ _ upd_same
  have hDD := upd_same (H := upd (upd H1 L0 (.lst [])) P0 (.lst [.str z0, .int 0, .ref L0, .int 1])) (a := D) (o := .lst [.ref P0])
  have s3 := s1.trans (t1.trans (t2.trans t3))
  have fP : H P0 = none := (s1.trans t1).free hP0
  generalize upd (upd (upd H1 L0 (.lst [])) P0 (.lst [.str z0, .int 0, .ref L0, .int 1])) D (.lst [.ref P0]) = H3 at hL hP hDD s3 ⊢
  refine ⟨_, rfl, _, rfl, a, _, rfl, s3.seq hS, fun sl hsl => ?_⟩
  have ecs : cutV (ns.map V.int) none (some 59) = (ns.take 59).map V.int := by
    rw [show (some 59 : Option Int) = some ((59 : Nat) : Int) from rfl, cut_take', List.map_take]
  rw [ecs]
  generalize hns : ns.take 59 = ms
  have lms : ms.length ≤ 59 := by rw [← hns, List.length_take]; omega
  clear hns
  have t4 := same_new hsl (.lst (ms.map V.int))
  have hsl4 := upd_same (H := H3) (a := sl) (o := .lst (ms.map V.int))
  have s4 := s3.trans t4
  have hL4 := t4 _ _ hL
  have hP4 := t4 _ _ hP
  have hD4 := t4 _ _ hDD
  have nsD : sl ≠ D := ne_of_none' hDD hsl
  have nsL : sl ≠ L0 := ne_of_none' hL hsl
  generalize upd H3 sl (.lst (ms.map V.int)) = H4 at t4 hsl4 s4 hL4 hP4 hD4 ⊢
  let B : Hp := fun b => if b = D ∨ b = L0 then none else H4 b
  have BD : B D = none := if_pos (.inl rfl)
  have BL : B L0 = none := if_pos (.inr rfl)
  have BH : Same B H4 := fun b o e => by
    by_cases hb : b = D ∨ b = L0
    · have e' : (if b = D ∨ b = L0 then none else H4 b) = some o := e
      rw [if_pos hb] at e'; cases e'
    · have e' : (if b = D ∨ b = L0 then none else H4 b) = some o := e
      rw [if_neg hb] at e'; exact e'
  have HB : Same H B := fun b o e => by
    show (if b = D ∨ b = L0 then none else H4 b) = some o
    rw [if_neg (by rintro (h | h); exact ne_of_none e fD h; exact ne_of_none e fL h)]
    exact s4 _ _ e
  have slB : B sl = some (.lst (ms.map V.int)) := by
    show (if sl = D ∨ sl = L0 then none else H4 sl) = _
    rw [if_neg (by rintro (h | h); exact nsD h; exact nsL h)]
    exact hsl4
  clear_value B
  have R0 : RowsAt B H4 D 1 (fun _ => ⟨z0, 0, [], 1⟩) := ⟨BH, BD, fun _ => P0, fun _ => L0, hD4, fun i _ => hP4, fun i _ => hL4, fun i _ => BL, fun i j hi hj _ => by omega⟩
  have ok1 : RwOk most 1 (fun _ => ⟨z0, 0, [], 1⟩) := RwOk.one (by omega) ok0 rfl
  refine ⟨sl, rfl, ⟨_, SqL.of hsl4⟩, for_list (K := K) (a := sl) (xs := ms.map V.int) (fun i σ H' => (∃ x4 x5 x6 x7, σ = [some (.ref a), some (.int wd), some (.int (most : Int)), some (.ref D), x4, x5, x6, x7, none, none]) ∧ ∃ R, RwOk most (i + 1) R ∧ RowsAt B H' D (i + 1) R)
    ⟨⟨none, none, none, none, rfl⟩, _, ok1, R0⟩ (fun i σ H' _ ⟨_, R, _, rw⟩ => SqL.of (rw.sm _ _ slB)) ?_ ?_⟩
  · rintro i y σ H' hy ⟨⟨x4, x5, x6, x7, rfl⟩, R, ok, rw⟩
    have hi := lt_of_some hy
    rw [List.length_map] at hi
    rw [List.getElem?_map] at hy
    obtain ⟨c, _, rfl⟩ := Option.map_eq_some_iff.mp hy
    obtain ⟨sm, nD, Pa, La, hD', hP', hL', bL, inj⟩ := rw
    have ln : ((List.range (i + 1)).map fun i => V.ref (Pa i)).length = i + 1 := by rw [List.length_map, List.length_range]
    refine ⟨_, rfl, _, _, rfl, rfl, ⟨by decide, by decide, by decide⟩, _, _, rfl, rfl, (by show (0 : Int) < 10 ^ Int.toNat 18; decide), ?_⟩
    have g0 := Int.emod_nonneg c (show (10 ^ Int.toNat 18 : Int) ≠ 0 by decide)
    have g1 : c % 10 ^ Int.toNat 18 < 1000000000000000000 := Int.emod_lt_of_pos c (by decide)
    try dsimp only
    generalize c % 10 ^ Int.toNat 18 = g at g0 g1 ⊢
    refine ⟨_, rfl, D, _, rfl, .inl (SqL.of hD'), _, _, rfl, rfl, _, rfl, _, _, rfl, rfl, ⟨by decide, by decide⟩, _, rfl, D, _, rfl, .inl (SqL.of hD'), _, _, rfl, rfl, (by rw [ln]; omega), (by show 2 ≤ sizeLine; decide), fun l2 hl2 => ?_⟩
    rw [ln]
    obtain ⟨u0, hu0, at0⟩ := up_at (n := i + 1) (by omega) g (decide (1 < g % 5))
    have t5 := same_new hl2 (.lst [.int (((i + 1 : Nat) : Int) - 1), .int (g / 5 % ((i + 1 : Nat) : Int))])
    refine ⟨_, rfl, _, _, rfl, rfl, (by show (0 : Int) < 5; decide), _, _, rfl, rfl, .inr ⟨_, rfl, l2, _, _, _, rfl, rfl, SqL.of upd_same, at0, ?_⟩⟩
    have hD5 := t5 _ _ hD'
    have hP5 : ∀ j, j < i + 1 → _ := fun j hj => t5 _ _ (hP' j hj)
    have hL5 : ∀ j, j < i + 1 → _ := fun j hj => t5 _ _ (hL' j hj)
    have sm5 := sm.trans t5
    try dsimp only
    generalize upd H' l2 (.lst [.int (((i + 1 : Nat) : Int) - 1), .int (g / 5 % ((i + 1 : Nat) : Int))]) = H5 at hD5 hP5 hL5 sm5 ⊢
    obtain ⟨u, hu, hlv, eσ⟩ : ∃ u, u < i + 1 ∧ (R u).lv < most ∧ (if decide ((most : Int) ≤ ((R u0).lv : Int)) = true then ([some (.ref a), some (.int wd), some (.int (most : Int)), some (.ref D), some (.int c), some (.int g), some (.int (u0 : Int)), x7, none, none] : St).set 6 (some (.int 0)) else [some (.ref a), some (.int wd), some (.int (most : Int)), some (.ref D), some (.int c), some (.int g), some (.int (u0 : Int)), x7, none, none]) = [some (.ref a), some (.int wd), some (.int (most : Int)), some (.ref D), some (.int c), some (.int g), some (.int (u : Int)), x7, none, none] := by
      by_cases hle : (most : Int) ≤ ((R u0).lv : Int)
      · rw [if_pos (decide_eq_true hle)]
        exact ⟨0, by omega, by rw [ok.top]; omega, rfl⟩
      · rw [if_neg (by rw [decide_eq_false hle]; decide)]
        exact ⟨u0, hu0, by omega, rfl⟩
    refine seq_if_set (decide ((most : Int) ≤ ((R u0).lv : Int))) (fun Q' q' => ⟨_, rfl, _, rfl, D, _, _, _, rfl, rfl, SqL.of hD5, atI_range hu0, Pa u0, _, 3, _, rfl, rfl, SqL.of (hP5 u0 hu0), rfl, _, rfl, _, _, rfl, rfl, _, rfl, q'⟩) eσ ?_
    obtain ⟨mk, hmk, m0, m1⟩ := mark_at g0 g1
    refine ⟨_, rfl, _, _, rfl, rfl, ⟨by decide, by decide⟩, _, _, rfl, rfl, (by show (0 : Int) < 10; decide), _, rfl, (by show 3 ≤ sizeLine; decide), fun l3 hl3 => ?_⟩
    have t6 := same_new hl3 (.lst [.int 0, .int (g / 11 % 10), .int g])
    refine ⟨_, rfl, _, _, rfl, rfl, ⟨by decide, by decide⟩, _, _, rfl, rfl, (by show (0 : Int) < 3; decide), l3, _, _, _, rfl, rfl, SqL.of upd_same, hmk, ?_⟩
    have hD6 := t6 _ _ hD5
    have hP6 : ∀ j, j < i + 1 → _ := fun j hj => t6 _ _ (hP5 j hj)
    have hL6 : ∀ j, j < i + 1 → _ := fun j hj => t6 _ _ (hL5 j hj)
    have sm6 := sm5.trans t6
    try dsimp only
    generalize upd H5 l3 (.lst [.int 0, .int (g / 11 % 10), .int g]) = H6 at hD6 hP6 hL6 sm6 ⊢
    have few := ok.few hu
    have lk : (kdV (R u).kd).length = (R u).kd.length := List.length_map ..
    have k0 := Int.emod_nonneg (g / 13) (show (((kdV (R u).kd).length : Int) + 1) ≠ 0 by omega)
    have k1 := Int.emod_lt_of_pos (g / 13) (show (0 : Int) < (((kdV (R u).kd).length : Int) + 1) by omega)
    refine ⟨_, rfl, _, rfl, D, _, _, _, rfl, rfl, SqL.of hD6, atI_range hu, Pa u, _, 2, _, rfl, rfl, SqL.of (hP6 u hu), rfl, .inl ⟨rfl, _, SqL.of (hL6 u hu)⟩, _, rfl, _, _, rfl, rfl, ⟨by decide, by decide⟩, _, rfl, _, rfl, D, _, _, _, rfl, rfl, SqL.of hD6, atI_range hu, Pa u, _, 2, _, rfl, rfl, SqL.of (hP6 u hu), rfl, La u, _, rfl, .inl (SqL.of (hL6 u hu)), _, _, rfl, rfl, _, _, rfl, rfl, (by omega), _, rfl, D, _, rfl, .inl (SqL.of hD6), La u, _, _, _, rfl, rfl, hL6 u hu, k0, by omega, fitsL (by omega), ?_⟩
    rw [ln]
    generalize hpos : (g / 13 % (((kdV (R u).kd).length : Int) + 1)).toNat = pos
    have nDL : D ≠ La u := D_ne_L (by omega) hD6 (hL6 u hu)
    have nPL : ∀ j, j < i + 1 → Pa j ≠ La u := fun j hj => lst_ne1 (hP6 j hj) (hL6 u hu)
    have ekd : (kdV (R u).kd).take pos ++ V.int ((i + 1 : Nat) : Int) :: (kdV (R u).kd).drop pos = kdV ((R u).kd.take pos ++ (i + 1) :: (R u).kd.drop pos) := by simp [kdV, List.map_take, List.map_drop]
    rw [ekd]
    have hD7 : upd H6 (La u) (.lst (kdV ((R u).kd.take pos ++ (i + 1) :: (R u).kd.drop pos))) D = some (.lst ((List.range (i + 1)).map fun i => V.ref (Pa i))) := by rw [upd_ne nDL]; exact hD6
    have hP7 : ∀ j, j < i + 1 → upd H6 (La u) (.lst (kdV ((R u).kd.take pos ++ (i + 1) :: (R u).kd.drop pos))) (Pa j) = some (.lst [.str (R j).nm, .int (R j).ma, .ref (La j), .int ((R j).lv : Int)]) := fun j hj => by rw [upd_ne (nPL j hj)]; exact hP6 j hj
    have hLu7 := upd_same (H := H6) (a := La u) (o := .lst (kdV ((R u).kd.take pos ++ (i + 1) :: (R u).kd.drop pos)))
    have hL7 : ∀ j, j < i + 1 → j ≠ u → upd H6 (La u) (.lst (kdV ((R u).kd.take pos ++ (i + 1) :: (R u).kd.drop pos))) (La j) = some (.lst (kdV (R j).kd)) := fun j hj hne => by
      rw [upd_ne (fun z => hne (inj j u hj hu z))]
      exact hL6 j hj
    have sm7 : Same B (upd H6 (La u) (.lst (kdV ((R u).kd.take pos ++ (i + 1) :: (R u).kd.drop pos)))) := same_upd (bL u hu) sm6
    try dsimp only
    generalize upd H6 (La u) (.lst (kdV ((R u).kd.take pos ++ (i + 1) :: (R u).kd.drop pos))) = H7 at hD7 hP7 hLu7 hL7 sm7 ⊢
    refine ⟨_, rfl, .inl ⟨rfl, _, SqL.of hD7⟩, _, rfl, _, rfl, _, _, rfl, rfl, ⟨by decide, by decide⟩, _, _, rfl, rfl, (by show (0 : Int) < 9; decide), _, _, rfl, fun z H8 okz s8 => ⟨_, rfl, (by show 0 ≤ sizeLine; decide), fun Ln hLn => ?_⟩⟩
    have t9 := same_new hLn (.lst [])
    have s79 := s8.trans t9
    refine ⟨_, rfl, _, rfl, D, _, _, _, rfl, rfl, SqL.of (s79 _ _ hD7), atI_range hu, Pa u, _, 3, _, rfl, rfl, SqL.of (s79 _ _ (hP7 u hu)), rfl, _, _, rfl, rfl, (by show 4 ≤ sizeLine; decide), fun Pn hPn => ?_⟩
    have t10 := same_new hPn (.lst [.str z, .int mk, .ref Ln, .int (((R u).lv : Int) + 1)])
    have s710 := s79.trans t10
    have hD10 := s710 _ _ hD7
    refine ⟨D, _, _, rfl, rfl, hD10, fitsL (by rw [ln]; omega), ?_⟩
    have nLnD : Ln ≠ D := ne_of_none' (s8 _ _ hD7) hLn
    have nPnD : Pn ≠ D := ne_of_none' (s79 _ _ hD7) hPn
    have nLnP : Ln ≠ Pn := fun e => by rw [← e, upd_same] at hPn; cases hPn
    have hLn10 := t10 _ _ (upd_same (H := H8) (a := Ln) (o := .lst []))
    refine ⟨⟨_, _, _, _, rfl⟩, grow R (i + 1) u pos ⟨z, mk, [], (R u).lv + 1⟩, ok.grow hu hlv okz m0 m1, same_upd nD (sm7.trans s710), nD, setN Pa (i + 1) Pn, setN La (i + 1) Ln, ?_, fun j hj => ?_, fun j hj => ?_, fun j hj => ?_, fun j k hj hk e => ?_⟩
    · have em : (List.range (i + 1 + 1)).map (fun j => V.ref (setN Pa (i + 1) Pn j)) = ((List.range (i + 1)).map fun j => V.ref (Pa j)) ++ [V.ref Pn] := by
        rw [List.range_succ (n := i + 1), List.map_append, List.map_cons, List.map_nil, setN_at rfl]
        congr 1
        apply List.map_congr_left
        intro j hj
        rw [setN_ne (by have := List.mem_range.mp hj; omega)]
      rw [upd_same, em]
    · by_cases e : j = i + 1
      · rw [setN_at e, setN_at e, upd_ne nPnD, upd_same, e, grow_new]
        rfl
      · have hj' : j < i + 1 := by omega
        have np : Pa j ≠ D := (D_ne_P (by omega) hD7 (hP7 j hj')).symm
        rw [setN_ne e, setN_ne e, upd_ne np]
        have h := s710 _ _ (hP7 j hj')
        by_cases eu : j = u
        · rw [eu] at h ⊢
          rw [grow_up hu]
          exact h
        · rw [grow_else e eu]
          exact h
    · by_cases e : j = i + 1
      · rw [setN_at e, upd_ne nLnD, hLn10, e, grow_new]
        rfl
      · have hj' : j < i + 1 := by omega
        rw [setN_ne e]
        by_cases eu : j = u
        · have np : La j ≠ D := by rw [eu]; exact (D_ne_L (by omega) hD7 hLu7).symm
          rw [upd_ne np, eu, grow_up hu]
          exact s710 _ _ hLu7
        · have np : La j ≠ D := (D_ne_L (by omega) hD7 (hL7 j hj' eu)).symm
          rw [upd_ne np, grow_else e eu]
          exact s710 _ _ (hL7 j hj' eu)
    · by_cases e : j = i + 1
      · rw [setN_at e]
        exact (sm7.trans s8).free hLn
      · rw [setN_ne e]
        exact bL j (by omega)
    · have isL : ∀ j, j < i + 1 → ∃ xs, H8 (La j) = some (.lst xs) := fun j hj => by
        by_cases eu : j = u
        · exact ⟨_, s8 _ _ (by rw [eu]; exact hLu7)⟩
        · exact ⟨_, s8 _ _ (hL7 j hj eu)⟩
      by_cases ej : j = i + 1
      · by_cases ek : k = i + 1
        · omega
        · rw [setN_at ej, setN_ne ek] at e
          obtain ⟨xs, hx⟩ := isL k (by omega)
          rw [← e, hLn] at hx
          cases hx
      · by_cases ek : k = i + 1
        · rw [setN_ne ej, setN_at ek] at e
          obtain ⟨xs, hx⟩ := isL j (by omega)
          rw [e, hLn] at hx
          cases hx
        · rw [setN_ne ej, setN_ne ek] at e
          exact inj j k (by omega) (by omega) e
  · rintro σ H' ⟨⟨x4, x5, x6, x7, rfl⟩, R, ok, rw⟩
    obtain ⟨sm, nD, Pa, La, hD', hP', hL', bL, inj⟩ := rw
    rw [List.length_map] at ok hD' hP' hL' bL inj
    obtain ⟨tr, htr⟩ := trees_of ok
    have tz := tree_size ok htr
    have td := tree_deep ok htr
    have tw := tree_wt ok htr
    have few : ∀ i, i < ms.length + 1 → (R i).kd.length ≤ 60 := fun i hi => by have := ok.few hi; omega
    have kid := ok.kid
    have top := ok.top
    generalize hN : ms.length + 1 = n at *
    have ln : ((List.range n).map fun i => V.ref (Pa i)).length = n := by rw [List.length_map, List.length_range]
    refine fun d hd => ?_
    have t1 := same_new hd (.dK [])
    refine ⟨_, rfl, D, _, rfl, .inl (SqL.of (t1 _ _ hD')), n, by rw [ln], by omega, ?_⟩
    refine for_revR (fun i σ H2 => (∃ x9, σ = [some (.ref a), some (.int wd), some (.int (most : Int)), some (.ref D), x4, x5, x6, x7, some (.ref d), x9]) ∧ Same H' H2 ∧ ∃ kvs, H2 d = some (.dK kvs) ∧ kvs.length ≤ i ∧ ∀ j, n - i ≤ j → j < n → ∃ v, valV kvs (Sum.inl (j : Int)) = some v ∧ TrIs H2 (tr j) v)
      ⟨⟨none, rfl⟩, t1, [], upd_same, Nat.le_refl _, fun j h1 h2 => by omega⟩ ?_ ?_
    · rintro i σ H2 hi ⟨⟨x9, rfl⟩, s2, kvs, hd2, hkl, hv⟩
      have ek : ((n : Int) - 1 - (i : Nat)) = ((n - 1 - i : Nat) : Int) := by omega
      rw [ek]
      generalize hk : n - 1 - i = k
      have hkn : k < n := by omega
      have hD2 := s2 _ _ hD'
      have hP2 := s2 _ _ (hP' k hkn)
      have hL2 := s2 _ _ (hL' k hkn)
      refine ⟨_, rfl, _, rfl, D, _, _, _, rfl, rfl, SqL.of hD2, atI_range hkn, Pa k, _, 0, _, rfl, rfl, SqL.of hP2, rfl, _, rfl, _, rfl, D, _, _, _, rfl, rfl, SqL.of hD2, atI_range hkn, Pa k, _, 1, _, rfl, rfl, SqL.of hP2, rfl, _, rfl, _, rfl, D, _, _, _, rfl, rfl, SqL.of hD2, atI_range hkn, Pa k, _, 2, _, rfl, rfl, SqL.of hP2, rfl, La k, rfl, ⟨_, SqL.of hL2⟩, fun C hC => ?_⟩
      have hkid : ∀ j ∈ (R k).kd, ∃ v, valV kvs (Sum.inl (j : Int)) = some v ∧ TrIs H2 (tr j) v := fun j hj => by
        obtain ⟨a1, a2, _⟩ := kid k hkn j hj
        exact hv j (by omega) a2
      obtain ⟨vs, hvs⟩ : ∃ vs, L2R (fun (j : Nat) v => valV kvs (Sum.inl (j : Int)) = some v ∧ TrIs H2 (tr j) v) (R k).kd vs := by
        generalize (R k).kd = ks at hkid
        induction ks with
        | nil => exact ⟨[], .nil⟩
        | cons x xs ih =>
          obtain ⟨v, h1⟩ := hkid x (by simp)
          obtain ⟨vs, h2⟩ := ih fun j hj => hkid j (by simp [hj])
          exact ⟨v :: vs, .cons h1 h2⟩
      have lvs := hvs.len
      have fk := few k hkn
      have lkd : (kdV (R k).kd).length = (R k).kd.length := List.length_map ..
      refine comp_lstM (K := K) (xs := kdV (R k).kd) (ys := vs) (fitsL (by omega)) (by rw [lkd, lvs]) (SqL.of hL2) hC (fun m x y H3 hx hy sm3 Q' q' => ?_) (fun H3 s3 hC3 => ?_)
      · rw [List.getElem?_map] at hx
        obtain ⟨j, hj, rfl⟩ := Option.map_eq_some_iff.mp hx
        obtain ⟨j', hj', hvj, _⟩ := hvs.get hy
        rw [hj] at hj'
        cases hj'
        have hd3 := sm3 _ _ hd2
        exact ⟨_, rfl, _, rfl, d, y, rfl, hvj ▸ DGet.k (k := Sum.inl (j : Int)) hd3, q' H3 (Same.refl _)⟩
      · refine ⟨C, _, rfl, .inl ⟨SqL.of hC3, fun b hb => ⟨(by show 3 ≤ sizeLine; decide), fun p hp => ?_⟩⟩⟩
        have t4 := same_new hb (.tup vs)
        have t5 := same_new hp (.tup [.str (R k).nm, .int (R k).ma, .ref b])
        have s35 := s3.trans (t4.trans t5)
        have hd5 := s35 _ _ hd2
        refine ⟨_, rfl, _, rfl, d, _, rfl, DPut.k (k := Sum.inl ((k : Nat) : Int)) hd5 (fitsL (by omega)), ?_⟩
        have tT : SameT (upd (upd H3 b (.tup vs)) p (.tup [.str (R k).nm, .int (R k).ma, .ref b])) (upd (upd (upd H3 b (.tup vs)) p (.tup [.str (R k).nm, .int (R k).ma, .ref b])) d (.dK (putK kvs (Sum.inl ((k : Nat) : Int)) (.ref p)))) := fun c zs e => by
          rw [upd_ne (ne_of e hd5 (fun z => nomatch z))]
          exact e
        have tA := (sameT s35).trans tT
        refine ⟨⟨_, rfl⟩, same_upd hd (s2.trans s35), _, upd_same, ?_, fun j h1 h2 => ?_⟩
        · have := length_putK kvs (Sum.inl ((k : Nat) : Int)) (.ref p)
          omega
        · rw [valV_put]
          by_cases e : (Sum.inl (j : Int) : Key) = Sum.inl ((k : Nat) : Int)
          · have ejk : j = k := by have := Sum.inl.inj e; omega
            rw [if_pos e]
            refine ⟨_, rfl, ?_⟩
            rw [ejk, htr k hkn]
            refine TrIs.cl (tT _ _ upd_same) (tT _ _ (t5 _ _ upd_same)) ?_
            have : ∀ {js : List Nat} {us : List V}, L2R (fun (j : Nat) v => valV kvs (Sum.inl (j : Int)) = some v ∧ TrIs H2 (tr j) v) js us → L2R (TrIs (upd (upd (upd H3 b (.tup vs)) p (.tup [.str (R k).nm, .int (R k).ma, .ref b])) d (.dK (putK kvs (Sum.inl ((k : Nat) : Int)) (.ref p))))) (js.map tr) us := by
              intro js us h
              induction h with
              | nil => exact .nil
              | cons h1 _ ih => exact .cons (TrIs.same tA _ h1.2) ih
            exact this hvs
          · rw [if_neg e]
            obtain ⟨v, g1, g2⟩ := hv j (by have : j ≠ k := fun z => e (by rw [z]); omega) h2
            exact ⟨v, g1, TrIs.same tA _ g2⟩
    · rintro σ H2 ⟨⟨x9, rfl⟩, s2, kvs, hd2, hkl, hv⟩
      obtain ⟨v, g1, g2⟩ := hv 0 (by omega) (by omega)
      refine ⟨_, rfl, d, v, rfl, g1 ▸ DGet.k (k := Sum.inl (0 : Int)) hd2, q (tr 0) v H2 ((HB.trans sm).trans s2) g2 (tw n 0 (by omega) (by omega)) (by omega) ?_⟩
      have := td n 0 (by omega) (by omega)
      omega
end
end K21
set_option Elab.async false
set_option linter.all false
set_option maxRecDepth 100000
set_option maxHeartbeats 4000000
namespace K21
open PySem L2 TR
open TM
def spPaths (n : Nat) : Sp := fun vs H Q _ => ∃ t v, vs = [v] ∧ TrIs H t v ∧ deep t ≤ n + 1 ∧ size t ≤ 1000 ∧ ∀ D us H', Same H H' → H D = none → H' D = some (.lst us) → L2R (PthIs H') (pths t) us → Q (.ref D) H'
def spAt (C : Addr) : Sp := fun vs H Q E => ∃ (t : Tr) (v : V) (q : List Int) (a : Addr), vs = [v, .ref a] ∧ TrIs H t v ∧ H a = some (.tup (q.map V.int)) ∧ (∀ u y, atT q t = some u → TrIs H u y → Q y H) ∧ (atT q t = none → ∀ H', Same H H' → E (.ref C) none H')
def spPut (C : Addr) (n : Nat) : Sp := fun vs H Q E => ∃ (t b : Tr) (v x : V) (q : List Int) (a : Addr), vs = [v, .ref a, x] ∧ TrIs H t v ∧ TrIs H b x ∧ H a = some (.tup (q.map V.int)) ∧ q.length ≤ n ∧ size t ≤ 1000 ∧
  (∀ r y H', putT q t b = some r → Same H H' → TrIs H' r y → Q y H') ∧ (putT q t b = none → ∀ H', Same H H' → E (.ref C) none H')
theorem _root_.TM.L2R.unapp {α : Type} {R : α → V → Prop} : ∀ {as bs : List α} {vs : List V}, L2R R (as ++ bs) vs → ∃ xs ys, vs = xs ++ ys ∧ L2R R as xs ∧ L2R R bs ys
  | [], bs, vs, h => ⟨[], vs, rfl, .nil, h⟩
  | a :: as, bs, _, .cons h1 h2 => by
    obtain ⟨xs, ys, e, g1, g2⟩ := TM.L2R.unapp h2
    exact ⟨_ :: xs, ys, by rw [e]; rfl, .cons h1 g1, g2⟩
theorem L2R.setV {α : Type} {R : α → V → Prop} : ∀ {as : List α} {vs : List V} {i : Nat} {a : α} {v : V}, L2R R as vs → R a v → L2R R (as.set i a) (vs.set i v)
  | _, _, _, _, _, .nil, _ => .nil
  | _, _, 0, _, _, .cons h1 h2, h => .cons h h2
  | _, _, i + 1, _, _, .cons h1 h2, h => .cons h1 (L2R.setV h2 h)
section
variable {P : Program} {w : World} {K : PySem.W.Frag} {mg : Str → Option Value} {base : Heap} {T : Adr}
theorem ok_paths (X : Tx K mg T) : ∀ n : Nat, FnOk P w K mg base CX0 (n + 1) T.qpaths T.d_qpaths ["tree"] (spPaths n) := by
  have step : ∀ (n : Nat) (sp : Sp), FnOk P w K mg base CX0 n T.qpaths T.d_qpaths ["tree"] sp → (∀ (t : Tr) (v : V) (H : Hp) (Q : VK) (E : XK), TrIs H t v → deep t ≤ n → size t ≤ 1000 → (∀ D us H', Same H H' → H D = none → H' D = some (.lst us) → L2R (PthIs H') (pths t) us → Q (.ref D) H') → sp [v] H Q E) → FnOk P w K mg base CX0 (n + 1) T.qpaths T.d_qpaths ["tree"] (spPaths n) := by
    intro n sp G_qpaths hsp
    refine X.F_qpaths.okQ sc_qpaths (fun vs H Q E h => ?_) (fun cdv A outer s H vs Q E hr h => ?_)
    · obtain ⟨_, _, rfl, _⟩ := h
      rfl
    obtain ⟨t, v, rfl, hv, hd, hz, q⟩ := h
    refine ⟨_, (qss_cons (qs_set (i := 1) sc_qpaths.nd rfl (Or.inl rfl) (qe_lst (qaT (qe_tup qa_nil) qa_nil))) (qss_cons (qs_for PassesOwn.never rfl (qi_en1 rfl X.z_enumerate (qe_ix ix_tup (qv 0) qe_int (fun _ _ => rfl))) (qg_tup rfl (qgs_cons (qg_name (i := 2) sc_qpaths.nd rfl (Or.inr rfl)) (qgs_cons (qg_name (i := 3) sc_qpaths.nd rfl (Or.inl rfl)) qgs_nil))) (qss_one (qs_expr (qe_bm PySem.F.plainAttrs_list PySem.F.slot_list_extend PySem.F.type_list_extend mt_extend (qv 1) (qaE (qe_comp (ys := ["k"]) (js := [2]) rfl rfl (qi_list (qe_call G_qpaths hr rfl X.m_qpaths X.F_qpaths.kp X.b_qpaths .nil pass0 (qaN (qv 3) qa_nil))) (fun _ _ _ _ _ => qif_nil) (fun _ _ _ _ _ => (qe_op op_catA (qe_tup (qaN (qv 1) qa_nil)) (qv 0)))) qa_nil))))) (qss_one (qs_ret (qv 1))))), ?_⟩
    obtain ⟨p, b, vs, rfl, hp, hb, hvs⟩ := hv.op
    have lvs := hvs.len
    have lbs := bs_len hz
    refine ⟨(by show 0 ≤ sizeLine; decide), fun e he => ⟨(by show 1 ≤ sizeLine; decide), fun D hD => ?_⟩⟩
    have s1 := same_new he (.tup [])
    have s2 := same_new hD (.lst [.ref e])
    have he2 := s2 _ _ (upd_same (H := H) (a := e) (o := .tup []))
    have hD2 := upd_same (H := upd H e (.tup [])) (a := D) (o := .lst [.ref e])
    have s12 := s1.trans s2
    have fD : H D = none := s1.free hD
    generalize upd (upd H e (.tup [])) D (.lst [.ref e]) = H2 at he2 hD2 s12 ⊢
    refine ⟨_, rfl, p, _, 2, _, rfl, rfl, SqT.of (s12 _ _ hp), rfl, b, vs, rfl, SqT.of (s12 _ _ hb), for_wt (fun i σ H' => ∃ x2 x3 us, σ = [some (.ref p), some (.ref D), x2, x3] ∧ Same H H' ∧ H' D = some (.lst us) ∧ L2R (PthIs H') ([] :: pthss 1 (t.bs.take i)) us)
      ⟨none, none, _, rfl, s12, hD2, ?_⟩ (fun i σ H' _ ⟨_, _, _, _, sm, _⟩ => SqT.of (sm _ _ hb)) ?_ ?_⟩
    · rw [List.take_zero, pthss]
      exact .cons ⟨e, rfl, he2⟩ .nil
    · rintro i T' vs' σ H' hi ⟨x, hx, rfl⟩ ⟨x2, x3, us, rfl, sm, hDi, hus⟩ hT
      obtain ⟨u, hu, hui⟩ := hvs.get hx
      have um : u ∈ t.bs := List.mem_of_getElem? hu
      have du := deep_br um
      have zu := size_br um
      have s3 := same_new hT (.tup [.int ((i : Int) + 1), x])
      refine ⟨T', _, rfl, SqT.of upd_same, rfl, _, _, rfl, _, _, rfl, rfl, ?_⟩
      have hD3 := s3 _ _ hDi
      refine ⟨_, rfl, .inl ⟨rfl, _, SqL.of hD3⟩, _, rfl, hsp u x _ _ _ (TrIs.same (sameT (sm.trans s3)) u hui) (by omega) (by omega) fun D2 us2 H4 s4 nD2 hD4 hus4 => ?_⟩
      have lu4 := hus4.len
      have lp : (pths u).length = size u := pths_len u
      have sm4 := sm.trans (s3.trans s4)
      refine ⟨D2, rfl, ⟨_, SqL.of hD4⟩, fun D3 nD3 => ?_⟩
      refine comp_lstR (K := K) (R := fun H q v => PthIs H (((i : Int) + 1) :: q) v) (as := pths u) (OffD.ofT fun _ _ _ _ e r => PthIs.same e r) (fitsL (by omega)) (by omega) (SqL.of hD4) nD3 (fun j y q H5 hy hq s5 _ Q' k => ?_) (fun ys H5 s5 hD5 hys => ?_)
      · obtain ⟨q', hq', c, rfl, hc⟩ := hus4.get hy
        rw [hq] at hq'
        cases hq'
        have pl := pths_short u (List.mem_of_getElem? hq)
        have dl := deep_size u
        refine ⟨_, rfl, (by show 1 ≤ sizeLine; decide), fun t1 ht1 => ?_⟩
        have s6 := same_new ht1 (.tup [.int ((i : Int) + 1)])
        refine ⟨_, rfl, t1, c, _, _, rfl, rfl, upd_same, s6 _ _ (s5 _ _ hc), fits2 (by rw [List.length_map]; show 1 + q.length ≤ 100000; omega), fun t2 H7 s7 h7 => k _ _ (s6.trans s7) ⟨t2, rfl, h7⟩⟩
      · have hDf := s5 _ _ (s4 _ _ hD3)
        have lus := hus.len
        have ly := hys.len
        have lt : ([] :: pthss 1 (t.bs.take i)).length ≤ 1001 := by
          rw [List.length_cons, pthss_len]
          have a := sizes_take i t.bs
          have := size_eq t
          omega
        refine ⟨D, D3, _, _, rfl, rfl, hDf, hD5, fits2 (by omega), _, _, us ++ ys, rfl, same_upd fD (sm4.trans s5), upd_same, ?_⟩
        have ee : ([] :: pthss 1 (t.bs.take (i + 1))) = ([] :: pthss 1 (t.bs.take i)) ++ (pths u).map ((1 + (i : Int)) :: ·) := by
          rw [take_snocA hu, pthss_snoc]
          have li : (t.bs.take i).length = i := by rw [List.length_take]; have := lt_of_some hu; omega
          rw [li]
          rfl
        rw [ee]
        have tD := sameT_lst (ys := us ++ ys) hDf
        refine (hus.imp fun _ _ => PthIs.same (((sameT (s3.trans (s4.trans s5)))).trans tD)).app ?_
        have : ∀ {qs : List (List Int)} {zs : List V}, L2R (fun q v => PthIs H5 (((i : Int) + 1) :: q) v) qs zs → L2R (PthIs (upd H5 D (.lst (us ++ ys)))) (qs.map ((1 + (i : Int)) :: ·)) zs := by
          intro qs zs h
          induction h with
          | nil => exact .nil
          | cons h1 _ ih =>
            refine .cons ?_ ih
            rw [Int.add_comm]
            exact PthIs.same tD h1
        exact this hys
    · rintro σ H' ⟨x2, x3, us, rfl, sm, hDi, hus⟩
      rw [lvs, List.take_length] at hus
      exact ⟨_, rfl, q D us H' sm fD hDi (by rw [pths_eq]; exact hus)⟩
  intro n
  induction n with
  | zero => exact step 0 (fun _ _ _ _ => False) ⟨fun _ _ _ _ h => h.elim, fun _ _ _ _ _ _ _ _ _ _ _ _ _ h => h.elim⟩ (fun t v H Q E _ hd _ _ => by have := deep_eq t; omega)
  | succ n ih => exact step (n + 1) _ ih fun t v H Q E hv hd hz q => ⟨t, v, rfl, hv, hd, hz, q⟩
theorem ok_at (X : Tx K mg T) : FnOk P w K mg base (CXe P w) 1 T.qbranchat T.d_qbranchat ["tree", "path"] (spAt T.k_NoPlace) := by
  refine X.F_qbranchat.okE sc_qbranchat (fun vs H Q E h => ?_) (fun cdv A outer s H vs Q E hr h => ?_)
  · obtain ⟨_, _, _, _, rfl, _⟩ := h
    rfl
  obtain ⟨t, v, q, a, rfl, hv, ha, qy, qn⟩ := h
  refine ⟨_, (qss_cons (qs_set (i := 2) sc_qbranchat.nd rfl (Or.inl rfl) (qv 0)) (qss_cons (qs_for PassesOwn.leaving rfl (qi_tup (qv 1)) (qg_name (i := 3) sc_qbranchat.nd rfl (Or.inl rfl)) (qss_cons (qs_if (qt_not (qt_chain op_le op_le qe_int (qv 3) (qe_callB call_len_seq rfl X.z_len PySem.boot_len (qaS (qe_ix ix_tup (qv 2) qe_int (fun _ _ => rfl)) qa_nil)))) (qss_one (qs_raise rfl rfl X.m_NoPlace X.e_NoPlace (qaC qe_str qa_nil) xe_raise)) qss_nil) (qss_one (qs_set (i := 2) sc_qbranchat.nd rfl (Or.inl rfl) (qe_ix ix_tup (qe_ix ix_tup (qv 2) qe_int (fun _ _ => rfl)) (qe_op op_sub (qv 3) qe_int) (fun _ _ => rfl)))))) (qss_one (qs_ret (qv 2))))), ?_⟩
  refine ⟨_, rfl, ?_⟩
  refine ⟨_, rfl, a, rfl, ⟨_, SqT.of ha⟩, for_tup (K := K) (a := a) (xs := q.map V.int) (fun i σ H' => H' = H ∧ ∃ u y x3, σ = [some v, some (.ref a), some y, x3] ∧ TrIs H u y ∧ atT (q.take i) t = some u) ⟨rfl, t, v, none, rfl, hv, rfl⟩ (fun i σ H' _ ⟨e, _⟩ => by rw [e]; exact SqT.of ha) ?_ ?_⟩
  · rintro i y σ H' hy ⟨rfl, u, y', x3, rfl, hu, hat⟩
    rw [List.getElem?_map] at hy
    obtain ⟨k, hk, rfl⟩ := Option.map_eq_some_iff.mp hy
    obtain ⟨p, b, us, rfl, hp, hb, hus⟩ := hu.op
    have lus := hus.len
    have hno : (k < 1 ∨ (u.bs.length : Int) < k) → E (.ref T.k_NoPlace) none H' := fun h => qn (by
      have e : q = q.take i ++ k :: q.drop (i + 1) := by
        obtain ⟨hi, e⟩ := List.getElem?_eq_some_iff.mp hk
        rw [← e, ← List.drop_eq_getElem_cons hi, List.take_append_drop]
      rw [e]
      exact atT_odd hat h) _ (Same.refl _)
    refine ⟨_, rfl, _, _, rfl, rfl, _, rfl, iteDd (fun h1 => ?_) (fun h1 => ?_)⟩
    · refine ⟨_, rfl, p, _, 2, _, rfl, rfl, SqT.of hp, rfl, b, us, rfl, .inr (SqT.of hb), _, _, rfl, rfl, _, rfl, iteNe (fun h2 => ?_) (fun h2 => ?_)⟩
      · exact ⟨(by show 1 ≤ 10; decide), hno (.inr (by omega))⟩
      · have hkj : (k - 1).toNat < us.length := by omega
        obtain ⟨z, hz⟩ := some_of_lt hkj
        obtain ⟨c, hc, hcz⟩ := hus.get hz
        have ek : k - 1 = (((k - 1).toNat : Nat) : Int) := by omega
        refine ⟨_, rfl, p, _, 2, _, rfl, rfl, SqT.of hp, rfl, _, rfl, _, _, rfl, rfl, b, us, _, z, rfl, rfl, SqT.of hb, by rw [ek]; exact atI_nat hz, rfl, c, z, _, rfl, hcz, ?_⟩
        rw [take_snocA hk, atT_app, hat]
        show atT [k] u = some c
        unfold atT
        rw [if_pos h1, hc]
        rfl
    · exact ⟨_, rfl, iteY rfl ⟨(by show 1 ≤ 10; decide), hno (.inl (by omega))⟩⟩
  · rintro σ H' ⟨rfl, u, y, x3, rfl, hu, hat⟩
    rw [List.length_map, List.take_length] at hat
    exact ⟨_, rfl, qy u y hat hu⟩
end
end K21
set_option Elab.async false
set_option linter.all false
set_option maxRecDepth 100000
set_option maxHeartbeats 4000000
namespace K21
open PySem L2 TR
open TM
theorem atI_hd (x : V) (xs : List V) : atI (x :: xs) 0 = some x := atI_nat (j := 0) (xs := x :: xs) rfl
theorem cut_dropI {xs : List V} {k : Int} (h0 : 0 ≤ k) : cutV xs (some k) none = xs.drop k.toNat := by
  obtain ⟨m, rfl⟩ := Int.eq_ofNat_of_zero_le h0
  exact cut_drop' xs m
theorem cut_toI {xs : List V} {k : Int} (h0 : 0 ≤ k) : cutV xs none (some k) = xs.take k.toNat := by
  obtain ⟨m, rfl⟩ := Int.eq_ofNat_of_zero_le h0
  exact cut_take' xs m
section
variable {P : Program} {w : World} {K : PySem.W.Frag} {mg : Str → Option Value} {base : Heap} {T : Adr}
theorem ok_put (X : Tx K mg T) : ∀ n : Nat, FnOk P w K mg base (CXe P w) (n + 2) T.qputin T.d_qputin ["tree", "path", "branch"] (spPut T.k_NoPlace n) := by
  have step : ∀ (n : Nat) (sp : Sp), FnOk P w K mg base (CXe P w) (n + 1) T.qputin T.d_qputin ["tree", "path", "branch"] sp → (∀ (vs : List V) (H : Hp) (Q : VK) (E : XK) (t b : Tr) (v x : V) (q : List Int) (a : Addr), vs = [v, .ref a, x] → TrIs H t v → TrIs H b x → H a = some (.tup (q.map V.int)) → q.length < n → size t ≤ 1000 → (∀ r y H', putT q t b = some r → Same H H' → TrIs H' r y → Q y H') → (putT q t b = none → ∀ H', Same H H' → E (.ref T.k_NoPlace) none H') → sp vs H Q E) →
      FnOk P w K mg base (CXe P w) (n + 2) T.qputin T.d_qputin ["tree", "path", "branch"] (spPut T.k_NoPlace n) := by
    intro n sp G_qputin hsp
    have G_qbranchat := (ok_at (P := P) (w := w) (base := base) X).mono (show 1 ≤ n + 1 by omega)
    refine X.F_qputin.okE sc_qputin (fun vs H Q E h => ?_) (fun cdv A outer s H vs Q E hr h => ?_)
    · obtain ⟨_, _, _, _, _, _, rfl, _⟩ := h
      rfl
    obtain ⟨t, b, v, x, q, a, rfl, hv, hx, ha, hq, hz, qy, qn⟩ := h
    refine ⟨_, (qss_cons (qs_if (qt_cmpR op_eq (qe_callB call_len_seq rfl X.z_len PySem.boot_len (qaN (qv 1) qa_nil)) qe_int (nomark _)) (qss_one (qs_ret (qv 2))) qss_nil) (qss_cons (qs_set (i := 3) sc_qputin.nd rfl (Or.inl rfl) (qe_ix ix_tup (qv 1) qe_int (fun _ _ => rfl))) (qss_cons (qs_set (i := 4) sc_qputin.nd rfl (Or.inl rfl) (qe_call G_qputin hr rfl X.m_qputin X.F_qputin.kp X.b_qputin .nil pass_on (qaK (qe_call G_qbranchat hr rfl X.m_qbranchat X.F_qbranchat.kp X.b_qbranchat .nil pass_on (qaN (qv 0) (qaT (qe_tup (qaN (qv 3) qa_nil)) qa_nil))) (qaS (qe_slice sl_tupA (qv 1) (qo_some qe_int) qo_none) (qaN (qv 2) qa_nil))))) (qss_one (qs_ret (qe_tup (qaS (qe_ix ix_tup (qv 0) qe_int (fun _ _ => rfl)) (qaS (qe_ix ix_tup (qv 0) qe_int (fun _ _ => rfl)) (qaB (qe_op op_catA (qe_op op_catA (qe_slice sl_tupA (qe_ix ix_tup (qv 0) qe_int (fun _ _ => rfl)) qo_none (qo_some (qe_op op_sub (qv 3) qe_int))) (qe_tup (qaN (qv 4) qa_nil))) (qe_slice sl_tupA (qe_ix ix_tup (qv 0) qe_int (fun _ _ => rfl)) (qo_some (qv 3)) qo_none)) qa_nil))))))))), ?_⟩
    refine ⟨_, rfl, a, _, rfl, .inr (SqT.of ha), rfl, _, rfl, iteDd (fun e => ?_) (fun e => ?_)⟩
    · have e0 : q = [] := by
        have e := V.int.inj e
        rw [List.length_map] at e
        exact List.length_eq_zero_iff.mp (by omega)
      subst e0
      exact ⟨_, rfl, qy b x H rfl (Same.refl _) hx⟩
    · cases q with
      | nil => exact absurd rfl e
      | cons k ks =>
        rw [List.length_cons] at hq
        refine ⟨_, rfl, a, _, 0, _, rfl, rfl, SqT.of ha, atI_hd (V.int k) (ks.map V.int), ?_⟩
        refine ⟨_, rfl, _, rfl, (by show 1 ≤ sizeLine; decide), fun p1 hp1 => ?_⟩
        have s1 := same_new hp1 (.tup [.int k])
        have hv1 := TrIs.same (sameT s1) t hv
        have hx1 := TrIs.same (sameT s1) b hx
        have ha1 := s1 _ _ ha
        have hp1' := upd_same (H := H) (a := p1) (o := .tup [.int k])
        generalize upd H p1 (.tup [.int k]) = H1 at s1 hv1 hx1 ha1 hp1' ⊢
        refine ⟨t, v, [k], p1, rfl, hv1, hp1', fun c y hc hy => ?_, fun hn => ?_⟩
        · obtain ⟨k1, k2, c', hc', cm, hcc⟩ := atT_cons hc
          cases hcc
          have zc := size_br cm
          refine ⟨_, rfl, _, rfl, a, _, rfl, ha1, fun a2 H2 s2 ha2 => ⟨_, rfl, ?_⟩⟩
          rw [show (some 1 : Option Int) = some ((1 : Nat) : Int) from rfl, cut_drop', List.map_cons, List.drop_succ_cons, List.drop_zero] at ha2
          have hpt : ∀ {r}, putT ks c b = some r → putT (k :: ks) t b = some (.node t.nm t.mk' (t.bs.set (k - 1).toNat r)) := fun {r} h => by
            rw [putT, if_pos k1, hc']
            show (putT ks c b).map _ = _
            rw [h]
            rfl
          refine hsp _ _ _ _ c b y x ks a2 rfl (TrIs.same (sameT s2) c hy) (TrIs.same (sameT s2) b hx1) ha2 (by omega) (by omega) (fun r z H3 hr' s3 hz3 => ?_) (fun hn H3 s3 => ?_)
          · have s03 := s1.trans (s2.trans s3)
            obtain ⟨p, bb, vs, rfl, hp, hb, hvs⟩ := hv.op
            have lvs := hvs.len
            have lbs := bs_len hz
            have hp3 := s03 _ _ hp
            have hb3 := s03 _ _ hb
            refine ⟨_, rfl, p, _, 0, _, rfl, rfl, SqT.of hp3, rfl, _, rfl, p, _, 1, _, rfl, rfl, SqT.of hp3, rfl, _, rfl, p, _, 2, _, rfl, rfl, SqT.of hp3, rfl, _, rfl, _, _, rfl, rfl, _, rfl, bb, _, rfl, hb3, fun c1 H4 s4 hc1 => ?_⟩
            rw [cut_toI (by omega)] at hc1
            refine ⟨_, rfl, (by show 1 ≤ sizeLine; decide), fun c2 hc2 => ?_⟩
            have s5 := same_new hc2 (.tup [z])
            refine ⟨c1, c2, _, _, rfl, rfl, s5 _ _ hc1, upd_same, fits2 (by rw [List.length_take, List.length_singleton]; omega), fun c3 H6 s6 hc3 => ?_⟩
            have s36 := s4.trans (s5.trans s6)
            refine ⟨_, rfl, p, _, 2, _, rfl, rfl, SqT.of (s36 _ _ hp3), rfl, _, rfl, _, rfl, bb, _, rfl, s36 _ _ hb3, fun c4 H7 s7 hc4 => ?_⟩
            rw [cut_dropI (by omega)] at hc4
            refine ⟨c3, c4, _, _, rfl, rfl, s7 _ _ hc3, hc4, fits2 (by rw [List.length_append, List.length_take, List.length_drop, List.length_singleton]; omega), fun c5 H8 s8 hc5 => ⟨(by show 3 ≤ sizeLine; decide), fun c6 hc6 => ?_⟩⟩
            have s9 := same_new hc6 (.tup [.str t.nm, .int t.mk', .ref c5])
            have s39 := s36.trans (s7.trans (s8.trans s9))
            refine qy _ _ _ (hpt hr') (s03.trans s39) (TrIs.cl upd_same (s9 _ _ hc5) ?_)
            have es : vs.take (k - 1).toNat ++ [z] ++ vs.drop k.toNat = vs.set (k - 1).toNat z := by
              rw [List.set_eq_take_append_cons_drop, if_pos (by omega), List.append_assoc, show (k - 1).toNat + 1 = k.toNat by omega]
              rfl
            rw [es]
            exact L2R.setV (hvs.imp fun _ _ h => TrIs.same (sameT (s03.trans s39)) _ h) (TrIs.same (sameT s39) r hz3)
          · exact qn (by
              rw [putT, if_pos k1, hc']
              show (putT ks c b).map _ = _
              rw [hn]
              rfl) H3 (s1.trans (s2.trans s3))
        · exact fun H2 s2 => qn (putT_none (by
            rw [show k :: ks = [k] ++ ks from rfl, atT_app, hn]
            rfl)) H2 (s1.trans s2)
  intro n
  induction n with
  | zero => exact step 0 (fun _ _ _ _ => False) ⟨fun _ _ _ _ h => h.elim, fun _ _ _ _ _ _ _ _ _ _ _ _ _ h => h.elim⟩ (fun vs H Q E t b v x q a _ _ _ _ hq => absurd hq (Nat.not_lt_zero _))
  | succ n ih => exact step (n + 1) _ ih fun vs H Q E t b v x q a e h1 h2 h3 h4 h5 h6 h7 => ⟨t, b, v, x, q, a, e, h1, h2, h3, by omega, h5, h6, h7⟩
end
def spNodes : Sp := fun vs H Q _ => ∃ t v, vs = [v] ∧ TrIs H t v ∧ size t ≤ 60 ∧ ∀ D us H', Same H H' → H' D = some (.lst us) → L2R (NdIs H') (nds [] t) us → Q (.ref D) H'
def wtN (xs : List (List Int × Tr)) : Nat := (xs.map fun x => size x.2).sum
theorem wtN_app (xs ys : List (List Int × Tr)) : wtN (xs ++ ys) = wtN xs + wtN ys := by unfold wtN; rw [List.map_append, List.sum_append]
theorem wtN_kids (p : List Int) : ∀ (ts : List Tr) (k : Int), wtN (kidsP p k ts) = sizes ts
  | [], k => by rw [kidsP, sizes]; rfl
  | t :: ts, k => by
    rw [kidsP, sizes, ← wtN_kids p ts (k + 1)]
    rfl
theorem wtN_rev (xs : List (List Int × Tr)) : wtN xs.reverse = wtN xs := by
  induction xs with
  | nil => rfl
  | cons x xs ih =>
    rw [List.reverse_cons, wtN_app, ih]
    show wtN xs + (size x.2 + 0) = size x.2 + wtN xs
    omega
theorem wtN_len (xs : List (List Int × Tr)) : xs.length ≤ wtN xs := by
  induction xs with
  | nil => exact Nat.le_refl _
  | cons x xs ih =>
    have := size_pos x.2
    show xs.length + 1 ≤ size x.2 + wtN xs
    omega
def ndF (xs : List (List Int × Tr)) : List (List Int × Tr) := xs.reverse.flatMap fun x => nds x.1 x.2
theorem ndF_app (xs ys : List (List Int × Tr)) : ndF (xs ++ ys) = ndF ys ++ ndF xs := by unfold ndF; simp
section
variable {P : Program} {w : World} {K : PySem.W.Frag} {mg : Str → Option Value} {base : Heap} {T : Adr}
theorem ok_nodes (X : Tx K mg T) : FnOk P w K mg base CX0 1 T.qnodes T.d_qnodes ["_law_tree"] spNodes := by
  refine X.F_qnodes.okQ sc_qnodes (fun vs H Q E h => ?_) (fun cdv A outer s H vs Q E hr h => ?_)
  · obtain ⟨_, _, rfl, _⟩ := h
    rfl
  obtain ⟨t, v, rfl, hv, hz, q⟩ := h
  refine ⟨_, (qss_cons (qs_set (i := 1) sc_qnodes.nd rfl (Or.inl rfl) (qe_lst qa_nil)) (qss_cons (qs_set (i := 2) sc_qnodes.nd rfl (Or.inl rfl) (qe_lst (qaT (qe_tup (qaT (qe_tup qa_nil) (qaN (qv 0) qa_nil))) qa_nil))) (qss_cons (qs_while PassesOwn.never (qt_cmpR (op_neNil hr.units) (qv 2) (qe_lst qa_nil) (nomark _)) (qss_cons (qs_asg (qe_bm0 PySem.F.plainAttrs_list PySem.F.slot_list_pop PySem.F.type_list_pop mt_pop (qv 2)) (qg_tup rfl (qgs_cons (qg_name (i := 3) sc_qnodes.nd rfl (Or.inl rfl)) (qgs_cons (qg_name (i := 4) sc_qnodes.nd rfl (Or.inl rfl)) qgs_nil)))) (qss_cons (qs_expr (qe_bm PySem.F.plainAttrs_list PySem.F.slot_list_append PySem.F.type_list_append mt_append (qv 1) (qaT (qe_tup (qaN (qv 3) (qaN (qv 4) qa_nil))) qa_nil))) (qss_one (qs_for PassesOwn.never rfl (qi_revR rfl rfl X.z_reversed rfl X.z_range (qe_callB call_len_seq rfl X.z_len PySem.boot_len (qaS (qe_ix ix_tup (qv 4) qe_int (fun _ _ => rfl)) qa_nil))) (qg_name (i := 5) sc_qnodes.nd rfl (Or.inl rfl)) (qss_one (qs_expr (qe_bm PySem.F.plainAttrs_list PySem.F.slot_list_append PySem.F.type_list_append mt_append (qv 2) (qaT (qe_tup (qaB (qe_op op_catA (qv 3) (qe_tup (qaB (qe_op op_add (qv 5) qe_int) qa_nil))) (qaS (qe_ix ix_tup (qe_ix ix_tup (qv 4) qe_int (fun _ _ => rfl)) (qv 5) (fun _ _ => rfl)) qa_nil))) qa_nil))))))))) (qss_one (qs_ret (qv 1)))))), ?_⟩
  refine ⟨(by show 0 ≤ sizeLine; decide), fun R hR => ?_⟩
  have s1 := same_new hR (.lst [])
  refine ⟨(by show 0 ≤ sizeLine; decide), fun e he => ⟨_, rfl, (by show 2 ≤ sizeLine; decide), fun p0 hp0 => ⟨(by show 1 ≤ sizeLine; decide), fun L hL => ?_⟩⟩⟩
  have s2 := same_new he (.tup [])
  have s3 := same_new hp0 (.tup [.ref e, v])
  have s4 := same_new hL (.lst [.ref p0])
  have hR4 := (s2.trans (s3.trans s4)) _ _ (upd_same (H := H) (a := R) (o := .lst []))
  have nRL : R ≠ L := ne_of_none ((s2.trans s3) _ _ upd_same) hL
  have fL : H L = none := (s1.trans (s2.trans s3)).free hL
  have s14 := s1.trans (s2.trans (s3.trans s4))
  have hn4 : NdIs (upd (upd (upd (upd H R (.lst [])) e (.tup [])) p0 (.tup [.ref e, v])) L (.lst [.ref p0])) ([], t) (.ref p0) := ⟨p0, e, v, rfl, s4 _ _ upd_same, s4 _ _ (s3 _ _ upd_same), TrIs.same (sameT s14) t hv⟩
  have hL4 := upd_same (H := upd (upd (upd H R (.lst [])) e (.tup [])) p0 (.tup [.ref e, v])) (a := L) (o := .lst [.ref p0])
  generalize upd (upd (upd (upd H R (.lst [])) e (.tup [])) p0 (.tup [.ref e, v])) L (.lst [.ref p0]) = H4 at hR4 s14 hn4 hL4 ⊢
  refine ⟨fun m σ H' => ∃ (x3 x4 x5 : Option V) (fs xs : List (List Int × Tr)) (us vs : List V), m = wtN xs ∧ σ = [some v, some (.ref R), some (.ref L), x3, x4, x5] ∧ Same H H' ∧ H' R = some (.lst us) ∧ L2R (NdIs H') fs us ∧ H' L = some (.lst vs) ∧ L2R (NdIs H') xs vs ∧ fs.length + wtN xs ≤ 60 ∧ fs ++ ndF xs = nds [] t,
    ⟨_, none, none, none, [], [([], t)], [], [.ref p0], rfl, rfl, s14, hR4, .nil, hL4, .cons hn4 .nil, ?_, ?_⟩, ?_⟩
  · show 0 + (size t + 0) ≤ 60
    omega
  · unfold ndF
    simp
  rintro m σ H5 ⟨x3, x4, x5, fs, xs, us, vs, rfl, rfl, sm, hR5, gf, hL5, gx, hcnt, heq⟩
  have lvs := gx.len
  have lus := gf.len
  refine ⟨_, rfl, (by show 0 ≤ sizeLine; decide), fun e1 he1 => ?_⟩
  have se := same_new he1 (.lst [])
  refine ⟨L, e1, vs, rfl, rfl, SqL.of (se _ _ hL5), SqL.of upd_same, _, rfl, ?_⟩
  have hR6 := se _ _ hR5
  have hL6 := se _ _ hL5
  have gx6 := gx.imp fun _ _ => NdIs.same (sameT se)
  have gf6 := gf.imp fun _ _ => NdIs.same (sameT se)
  have sm6 := sm.trans se
  generalize upd H5 e1 (.lst []) = H6 at hR6 hL6 gx6 gf6 sm6 ⊢
  by_cases hnil : vs = []
  · have hx0 : xs = [] := by rw [hnil] at lvs; exact List.length_eq_zero_iff.mp lvs.symm
    subst hx0
    rw [decide_eq_true hnil]
    refine iteF ⟨_, rfl, q R us H6 sm6 hR6 ?_⟩
    have e0 : fs = nds [] t := by rw [← heq]; simp [ndF]
    rw [← e0]
    exact gf6
  · rw [decide_eq_false hnil]
    refine iteT ⟨_, fun σ' H'' h => h, ?_⟩
    obtain ⟨vs', y, rfl⟩ : ∃ vs' y, vs = vs' ++ [y] := ⟨vs.dropLast, vs.getLast hnil, (List.dropLast_concat_getLast hnil).symm⟩
    have hxn : xs ≠ [] := fun z => by rw [z] at lvs; simp at lvs
    obtain ⟨xs', x, rfl⟩ : ∃ xs' x, xs = xs' ++ [x] := ⟨xs.dropLast, xs.getLast hxn, (List.dropLast_concat_getLast hxn).symm⟩
    obtain ⟨g1, g2⟩ : L2R (NdIs H6) xs' vs' ∧ NdIs H6 x y := by
      obtain ⟨a, b, e, h1, h2⟩ := L2R.unapp gx6
      obtain ⟨z, r, e2, h3, h4⟩ := h2.inv_cons
      have := h4.nil_of
      subst this e2
      obtain ⟨rfl, e4⟩ := List.append_inj' e rfl
      cases e4
      exact ⟨h1, h3⟩
    obtain ⟨pp, u⟩ := x
    have lpp : pp.length ≤ 1000 := by
      have hm : (pp, u) ∈ nds [] t := by
        rw [← heq, ndF_app]
        unfold ndF
        simp [nds_eq]
      obtain ⟨r, e, h⟩ := nds_at t hm
      have := atT_deep h
      have := deep_size t
      rw [e, List.nil_append]
      omega
    rw [wtN_app] at hcnt ⊢
    have hw1 : wtN [(pp, u)] = size u := by show size u + 0 = _; omega
    refine ⟨_, rfl, .inl ⟨rfl, _, SqL.of hL6⟩, L, _, y, rfl, rfl, hL6, by simp, ?_⟩
    rw [List.dropLast_concat]
    have hL7 := upd_same (H := H6) (a := L) (o := .lst vs')
    have hR7 : upd H6 L (.lst vs') R = some (.lst us) := by rw [upd_ne nRL]; exact hR6
    have tL := sameT_lst (ys := vs') hL6
    have sm7 : Same H (upd H6 L (.lst vs')) := same_upd fL sm6
    have gx7 := g1.imp fun _ _ => NdIs.same tL
    have gf7 := gf6.imp fun _ _ => NdIs.same tL
    obtain ⟨a, b, yu, rfl, ha, hb, hu⟩ := NdIs.same tL g2
    generalize upd H6 L (.lst vs') = H7 at hL7 hR7 sm7 gx7 gf7 ha hb hu ⊢
    have hb' : H7 b = some (.tup (pp.map V.int)) := hb
    have hu' : TrIs H7 u yu := hu
    refine ⟨a, _, rfl, SqT.of ha, rfl, _, _, rfl, _, _, rfl, rfl, ?_⟩
    refine ⟨_, rfl, .inl ⟨rfl, _, SqL.of hR7⟩, _, rfl, _, rfl, (by show 2 ≤ sizeLine; decide), fun n1 hn1 => ?_⟩
    have s8 := same_new hn1 (.tup [.ref b, yu])
    refine ⟨R, us, _, rfl, rfl, s8 _ _ hR7, fitsL (by omega), ?_⟩
    have nnR : n1 ≠ R := ne_of_none' hR7 hn1
    have hR9 := upd_same (H := upd H7 n1 (.tup [.ref b, yu])) (a := R) (o := .lst (us ++ [.ref n1]))
    have t9 : SameT H7 (upd (upd H7 n1 (.tup [.ref b, yu])) R (.lst (us ++ [.ref n1]))) := (sameT s8).trans (sameT_lst (s8 _ _ hR7))
    have hn9 : upd (upd H7 n1 (.tup [.ref b, yu])) R (.lst (us ++ [.ref n1])) n1 = some (.tup [.ref b, yu]) := by rw [upd_ne nnR, upd_same]
    have hL9 : upd (upd H7 n1 (.tup [.ref b, yu])) R (.lst (us ++ [.ref n1])) L = some (.lst vs') := by rw [upd_ne nRL.symm]; exact s8 _ _ hL7
    have sm9 : Same H (upd (upd H7 n1 (.tup [.ref b, yu])) R (.lst (us ++ [.ref n1]))) := same_upd hR (sm7.trans s8)
    generalize upd (upd H7 n1 (.tup [.ref b, yu])) R (.lst (us ++ [.ref n1])) = H9 at hR9 t9 hn9 hL9 sm9 ⊢
    have gf9 : L2R (NdIs H9) (fs ++ [(pp, u)]) (us ++ [.ref n1]) := (gf7.imp fun _ _ => NdIs.same t9).snoc ⟨n1, b, yu, rfl, hn9, t9 _ _ hb', TrIs.same t9 u hu'⟩
    have gx9 := gx7.imp fun _ _ => NdIs.same t9
    have hb9 := t9 _ _ hb'
    obtain ⟨p, bb, ws, rfl, hp, hbb, hws⟩ := (TrIs.same t9 u hu').op
    have lws := hws.len
    have szu := size_eq u
    have slu := sizes_len u.bs
    have kl := kidsP_len pp u.bs 1
    have lx' := wtN_len xs'
    have lg := gx9.len
    refine ⟨_, rfl, p, _, 2, _, rfl, rfl, SqT.of hp, rfl, bb, ws, rfl, .inr (SqT.of hbb), ws.length, rfl, by omega, ?_⟩
    refine for_revR (fun i σ H' => ∃ (x5 : Option V) (vs2 : List V), σ = [some v, some (.ref R), some (.ref L), some (.ref b), some (.ref p), x5] ∧ Same H H' ∧ SameT H9 H' ∧ H' R = some (.lst (us ++ [.ref n1])) ∧ H' L = some (.lst vs2) ∧ L2R (NdIs H') (xs' ++ (kidsP pp 1 u.bs).reverse.take i) vs2)
      ⟨_, _, rfl, sm9, SameT.refl _, hR9, hL9, by rw [List.take_zero, List.append_nil]; exact gx9⟩ ?_ ?_
    · rintro i σ H' hi ⟨x5', vs2, rfl, smi, tt, hRi, hLi, gi⟩
      have ek : ((ws.length : Int) - 1 - (i : Nat)) = ((ws.length - 1 - i : Nat) : Int) := by omega
      rw [ek]
      generalize hk : ws.length - 1 - i = k
      have hkl : k < ws.length := by omega
      obtain ⟨z, hz'⟩ := some_of_lt hkl
      obtain ⟨c, hc, hcz⟩ := hws.get hz'
      have lgi := gi.len
      have hp' := tt _ _ hp
      have hbb' := tt _ _ hbb
      have hbi := tt _ _ hb9
      refine ⟨_, rfl, .inl ⟨rfl, _, SqL.of hLi⟩, _, rfl, _, rfl, _, _, rfl, rfl, (by show 1 ≤ sizeLine; decide), fun t1 ht1 => ?_⟩
      have s10 := same_new ht1 (.tup [.int ((k : Int) + 1)])
      refine ⟨b, t1, _, _, rfl, rfl, s10 _ _ hbi, upd_same, fits2 (by rw [List.length_map, List.length_singleton]; omega), fun t2 H11 s11 ht2 => ?_⟩
      have s1011 := s10.trans s11
      refine ⟨_, rfl, p, _, 2, _, rfl, rfl, SqT.of (s1011 _ _ hp'), rfl, _, rfl, bb, _, _, z, rfl, rfl, SqT.of (s1011 _ _ hbb'), atI_nat hz', (by show 2 ≤ sizeLine; decide), fun t3 ht3 => ?_⟩
      have s12 := same_new ht3 (.tup [.ref t2, z])
      have s1012 := s1011.trans s12
      refine ⟨L, _, _, rfl, rfl, s1012 _ _ hLi, fitsL (by rw [lgi, List.length_append, List.length_take]; omega), ?_⟩
      have ntL : t3 ≠ L := ne_of_none' (s1011 _ _ hLi) ht3
      have tL2 := sameT_lst (ys := vs2 ++ [.ref t3]) (s1012 _ _ hLi)
      have tt2 := (sameT s1012).trans tL2
      refine ⟨_, _, rfl, same_upd fL (smi.trans s1012), tt.trans tt2, by rw [upd_ne nRL]; exact s1012 _ _ hRi, upd_same, ?_⟩
      have hkd : (kidsP pp 1 u.bs).reverse[i]? = some (pp ++ [1 + (k : Int)], c) := by
        rw [List.getElem?_reverse (by omega), kl]
        have e1 : u.bs.length - 1 - i = k := by omega
        rw [e1]
        exact kidsP_get pp u.bs 1 hc
      rw [take_snocA hkd, ← List.append_assoc]
      refine (gi.imp fun _ _ => NdIs.same tt2).snoc ⟨t3, t2, z, rfl, by rw [upd_ne ntL, upd_same], ?_, TrIs.same (tt.trans tt2) c hcz⟩
      have e2 : (pp ++ [1 + (k : Int)]).map V.int = pp.map V.int ++ [V.int ((k : Int) + 1)] := by rw [List.map_append, Int.add_comm]; rfl
      show _ = some (HO.tup ((pp ++ [1 + (k : Int)]).map V.int))
      rw [e2]
      exact tL2 _ _ (s12 _ _ ht2)
    · rintro σ H' ⟨x5', vs2, rfl, smi, tt, hRi, hLi, gi⟩
      have et : (kidsP pp 1 u.bs).reverse.take ws.length = (kidsP pp 1 u.bs).reverse := List.take_of_length_le (by rw [List.length_reverse]; omega)
      rw [et] at gi
      have wk : wtN (kidsP pp 1 u.bs).reverse = sizes u.bs := by rw [wtN_rev, wtN_kids]
      refine ⟨wtN (xs' ++ (kidsP pp 1 u.bs).reverse), by rw [wtN_app]; omega, _, _, _, fs ++ [(pp, u)], xs' ++ (kidsP pp 1 u.bs).reverse, us ++ [.ref n1], vs2, rfl, rfl, smi, hRi, gf9.imp fun _ _ => NdIs.same tt, hLi, gi, by rw [wtN_app, List.length_append, List.length_singleton]; omega, ?_⟩
      rw [← heq, ndF_app, ndF_app]
      have e3 : ndF (kidsP pp 1 u.bs).reverse = ndss pp 1 u.bs := by unfold ndF; rw [List.reverse_reverse, ndss_eq]
      have e4 : ndF [(pp, u)] = (pp, u) :: ndss pp 1 u.bs := by unfold ndF; rw [List.reverse_singleton, List.flatMap_cons, List.flatMap_nil, List.append_nil, nds_eq]
      rw [e3, e4]
      simp
end
end K21
set_option Elab.async false
set_option linter.all false
set_option maxRecDepth 100000
set_option maxHeartbeats 4000000
namespace K21
open PySem L2 TR
open TM
theorem boot_VE : bootBuiltins "ValueError" = some (.type "ValueError") := by decide +kernel
theorem call_isxC {X : Cx} {K : PySem.W.Frag} (h : X.K = K) : CallR X (.builtin "isinstance") (fun xs H Q => ∃ (a C : Addr) (v : V) (b : Bool), xs = [.ref a, v] ∧ H a = some (excO a C) ∧ XCls K C ∧
    ((∃ D, v = .ref D ∧ PySem.W.kitOne K (.ref C) (.ref D) = some b) ∨ (∃ T, v = .ty T ∧ PySem.W.kitOne K (.ref C) (.type T) = some b) ∨ (∃ (p : Addr) (ds : List Addr), v = .ref p ∧ H p = some (.tup (ds.map V.ref)) ∧ PySem.W.kitAny K (.ref C) (ds.map Value.ref) = some b)) ∧ Q (.bl b) H) := h ▸ call_isx
theorem isds1 {K : PySem.W.Frag} {H : Hp} {b : Bool} : Isds K H [.fl (.bl b)] [.bl b] := isds_cons (by unfold Isd; exact ⟨rfl, rfl⟩) isds_nil
theorem isds3 {K : PySem.W.Frag} {H : Hp} {a b c : Bool} : Isds K H [.fl (.bl a), .fl (.bl b), .fl (.bl c)] [.bl a, .bl b, .bl c] := isds_cons (by unfold Isd; exact ⟨rfl, rfl⟩) (isds_cons (by unfold Isd; exact ⟨rfl, rfl⟩) isds1)
theorem k_ll {K : PySem.W.Frag} : PySem.W.kitOne K (.type "list") (.type "list") = some true := by with_unfolding_all rfl
def spOdd : Sp := fun vs H Q _ => ∃ (t w : Tr) (v : V) (q : List Int) (a : Addr) (c : Int), vs = [v, .ref a, .int c] ∧ TrIs H t v ∧ H a = some (.tup (q.map V.int)) ∧ atT q t = some w ∧ q.length ≤ 60 ∧ size t ≤ 60 ∧
  ∀ (r : List Int) (b : Addr) (H' : Hp), Same H H' → H' b = some (.tup (r.map V.int)) → atT r t = none → r.length ≤ 62 → Q (.ref b) H'
def spLP : Sp := fun vs H Q _ => ∃ (t : Tr) (v : V) (D : Addr) (us : List V), vs = [v, .ref D] ∧ TrIs H t v ∧ deep t ≤ 40 ∧ size t ≤ 60 ∧ H D = some (.lst us) ∧ L2R (PthIs H) (pths t) us ∧ ∀ H', Same H H' → Q (.bl true) H'
def spRef : Sp := fun vs H Q _ => ∃ (t b : Tr) (v x : V) (q : List Int) (a : Addr) (pb : Bool), vs = [v, .ref a, x, .bl pb] ∧ TrIs H t v ∧ TrIs H b x ∧ H a = some (.tup (q.map V.int)) ∧ atT q t = none ∧ q.length ≤ 62 ∧ size t ≤ 60 ∧ ∀ H', Same H H' → Q (.bl true) H'
theorem odd_at {m : Nat} (hm : m ≤ 1000) {f c : Int} (hf : 0 ≤ f) : ∃ o : Int, atI [V.int 0, .int (-1), .int (0 - (m : Int)), .int ((m : Int) + 1), .int ((m : Int) + 2), .int (f + 10 ^ Int.toNat 18), .int (0 - f)] (c % 7) = some (.int o) ∧ (o < 1 ∨ (m : Int) < o) := by
  have d0 := Int.emod_nonneg c (show (7 : Int) ≠ 0 by decide)
  have d1 := Int.emod_lt_of_pos c (show (0 : Int) < 7 by decide)
  have e18 : (10 ^ Int.toNat 18 : Int) = 1000000000000000000 := by decide
  have : c % 7 = 0 ∨ c % 7 = 1 ∨ c % 7 = 2 ∨ c % 7 = 3 ∨ c % 7 = 4 ∨ c % 7 = 5 ∨ c % 7 = 6 := by omega
  rcases this with e | e | e | e | e | e | e <;> rw [e]
  · exact ⟨_, rfl, by omega⟩
  · exact ⟨_, rfl, by omega⟩
  · exact ⟨_, rfl, by omega⟩
  · exact ⟨_, rfl, by omega⟩
  · exact ⟨_, rfl, by omega⟩
  · exact ⟨_, rfl, by rw [e18]; omega⟩
  · exact ⟨_, rfl, by omega⟩
section
variable {P : Program} {w : World} {K : PySem.W.Frag} {mg : Str → Option Value} {base : Heap} {T : Adr}
theorem ok_odd (X : Tx K mg T) : FnOk P w K mg base CX0 1 T.qodd T.d_qodd ["_law_tree", "_law_path", "_law_cell"] spOdd := by
  refine X.F_qodd.okQ sc_qodd (fun vs H Q E h => ?_) (fun cdv A outer s H vs Q E hr h => ?_)
  · obtain ⟨_, _, _, _, _, _, rfl, _⟩ := h
    rfl
  obtain ⟨t, wt, v, q, a, c, rfl, hv, ha, hat, hq, hz, k⟩ := h
  refine ⟨_, (qss_cons (qs_set (i := 3) sc_qodd.nd rfl (Or.inl rfl) (qe_op op_mod (qv 2) (qe_op op_add (qe_callB call_len_seq rfl X.z_len PySem.boot_len (qaN (qv 1) qa_nil)) qe_int))) (qss_cons (qs_set (i := 4) sc_qodd.nd rfl (Or.inl rfl) (qv 0)) (qss_cons (qs_for PassesOwn.never rfl (qi_tup (qe_slice sl_tupA (qv 1) qo_none (qo_some (qv 3)))) (qg_name (i := 5) sc_qodd.nd rfl (Or.inl rfl)) (qss_one (qs_set (i := 4) sc_qodd.nd rfl (Or.inl rfl) (qe_ix ix_tup (qe_ix ix_tup (qv 4) qe_int (fun _ _ => rfl)) (qe_op op_sub (qv 5) qe_int) (fun _ _ => rfl))))) (qss_cons (qs_set (i := 6) sc_qodd.nd rfl (Or.inl rfl) (qe_callB call_len_seq rfl X.z_len PySem.boot_len (qaS (qe_ix ix_tup (qv 4) qe_int (fun _ _ => rfl)) qa_nil))) (qss_cons (qs_set (i := 7) sc_qodd.nd rfl (Or.inl rfl) (qe_op op_mod (qe_op op_fdiv (qv 2) qe_int) (qe_op op_pow qe_int qe_int))) (qss_cons (qs_set (i := 8) sc_qodd.nd rfl (Or.inl rfl) (qe_ix ix_list (qe_lst (qaC qe_int (qaU (qe_un un_neg qe_int) (qaB (qe_op op_sub qe_int (qv 6)) (qaB (qe_op op_add (qv 6) qe_int) (qaB (qe_op op_add (qv 6) qe_int) (qaB (qe_op op_add (qv 7) (qe_op op_pow qe_int qe_int)) (qaB (qe_op op_sub qe_int (qv 7)) qa_nil)))))))) (qe_op op_mod (qv 2) qe_int) (fun _ _ => rfl))) (qss_cons (qs_if (qt_cmpR op_eq (qe_op op_mod (qe_op op_fdiv (qv 2) qe_int) qe_int) qe_int (nomark _)) (qss_one (qs_ret (qe_op op_catA (qe_slice sl_tupA (qv 1) qo_none (qo_some (qv 3))) (qe_tup (qaN (qv 8) qa_nil))))) qss_nil) (qss_one (qs_ret (qe_op op_catA (qe_op op_catA (qe_slice sl_tupA (qv 1) qo_none (qo_some (qv 3))) (qe_tup (qaN (qv 8) qa_nil))) (qe_slice sl_tupA (qv 1) (qo_some (qe_op op_add (qv 3) qe_int)) qo_none))))))))))), ?_⟩
  have lm : (q.map V.int).length = q.length := List.length_map ..
  have hpos : (0 : Int) < ((q.map V.int).length : Int) + 1 := by omega
  have j0 := Int.emod_nonneg c (show ((q.map V.int).length : Int) + 1 ≠ 0 by omega)
  have j1 := Int.emod_lt_of_pos c hpos
  refine ⟨_, rfl, _, rfl, a, _, rfl, .inr (SqT.of ha), _, _, rfl, rfl, _, _, rfl, rfl, hpos, ?_⟩
  obtain ⟨j, hj⟩ := Int.eq_ofNat_of_zero_le j0
  have hjq : j ≤ q.length := by omega
  dsimp only
  rw [hj]
  refine ⟨_, rfl, ?_⟩
  refine ⟨_, rfl, _, rfl, _, rfl, a, _, rfl, ha, fun a2 H2 s2 ha2 => ?_⟩
  rw [cut_take', ← List.map_take] at ha2
  have pre : ∀ i, i ≤ q.length → ∃ u, atT (q.take i) t = some u := fun i _ => by
    have e := hat
    rw [← List.take_append_drop i q, atT_app] at e
    cases h : atT (q.take i) t with
    | none => rw [h] at e; cases e
    | some u => exact ⟨u, rfl⟩
  refine ⟨a2, rfl, ⟨_, SqT.of ha2⟩, for_tup (K := K) (a := a2) (xs := (q.take j).map V.int) (fun i σ H' => H' = H2 ∧ ∃ u y x5, σ = [some v, some (.ref a), some (.int c), some (.int (j : Int)), some y, x5, none, none, none] ∧ TrIs H2 u y ∧ atT (q.take i) t = some u) ⟨rfl, t, v, none, rfl, TrIs.same (sameT s2) t hv, rfl⟩ (fun i σ H' _ ⟨e, _⟩ => by rw [e]; exact SqT.of ha2) ?_ ?_⟩
  · rintro i y σ H' hy ⟨rfl, u, y', x5, rfl, hu, hui⟩
    rw [List.getElem?_map] at hy
    obtain ⟨n, hn, rfl⟩ := Option.map_eq_some_iff.mp hy
    have hij : i < j := by have := lt_of_some hn; rw [List.length_take] at this; omega
    have hqn : q[i]? = some n := by rw [List.getElem?_take, if_pos hij] at hn; exact hn
    obtain ⟨c1, hc1⟩ := pre (i + 1) (by omega)
    have hc2 : atT [n] u = some c1 := by
      rw [take_snocA hqn, atT_app, hui] at hc1
      exact hc1
    obtain ⟨n1, n2, c', hc', _, hcc⟩ := atT_cons hc2
    cases hcc
    obtain ⟨p, b, us, rfl, hp, hb, hus⟩ := hu.op
    have lus := hus.len
    obtain ⟨z, hz'⟩ := some_of_lt (xs := us) (i := (n - 1).toNat) (by omega)
    obtain ⟨c'', hc'', hcz⟩ := hus.get hz'
    rw [hc'] at hc''
    cases hc''
    have en : n - 1 = (((n - 1).toNat : Nat) : Int) := by omega
    exact ⟨_, rfl, p, _, 2, _, rfl, rfl, SqT.of hp, rfl, _, rfl, _, _, rfl, rfl, b, us, _, z, rfl, rfl, SqT.of hb, by rw [en]; exact atI_nat hz', rfl, _, z, _, rfl, hcz, hc1⟩
  · rintro σ H' ⟨rfl, u, y, x5, rfl, hu, hui⟩
    have ej : ((q.take j).map V.int).length = j := by rw [List.length_map, List.length_take]; omega
    rw [ej] at hui
    obtain ⟨p, b, us, rfl, hp, hb, hus⟩ := hu.op
    have lus := hus.len
    have zu := atT_size hui
    have lbs : u.bs.length < 61 := bs_len (by omega)
    refine ⟨_, rfl, p, _, 2, _, rfl, rfl, SqT.of hp, rfl, b, us, rfl, .inr (SqT.of hb), ?_⟩
    refine ⟨_, rfl, _, _, rfl, rfl, ⟨by decide, by decide⟩, _, _, rfl, rfl, ⟨by decide, by decide, by decide⟩, _, _, rfl, rfl, (by show (0 : Int) < 10 ^ Int.toNat 18; decide), ?_⟩
    have f0 := Int.emod_nonneg (c / 7) (show (10 ^ Int.toNat 18 : Int) ≠ 0 by decide)
    obtain ⟨o, ho, hodd⟩ := odd_at (m := us.length) (by omega) (f := c / 7 % 10 ^ Int.toNat 18) (c := c) f0
    refine ⟨_, rfl, _, rfl, _, _, rfl, rfl, _, rfl, _, _, rfl, rfl, _, rfl, _, _, rfl, rfl, _, rfl, _, _, rfl, rfl, ⟨by decide, by decide, by decide⟩, _, _, rfl, rfl, _, rfl, _, _, rfl, rfl, (by show 7 ≤ sizeLine; decide), fun l hl => ?_⟩
    have s3 := same_new hl (.lst [V.int 0, .int (-1), .int (0 - (us.length : Int)), .int ((us.length : Int) + 1), .int ((us.length : Int) + 2), .int (c / 7 % 10 ^ Int.toNat 18 + 10 ^ Int.toNat 18), .int (0 - c / 7 % 10 ^ Int.toNat 18)])
    refine ⟨_, rfl, _, _, rfl, rfl, (by show (0 : Int) < 7; decide), l, _, _, _, rfl, rfl, SqL.of upd_same, ho, ?_⟩
    have a3 := s3 _ _ (s2 _ _ ha)
    have hodd' : o < 1 ∨ (u.bs.length : Int) < o := by rw [← lus]; exact hodd
    have tk : ((q.map V.int).take j).length ≤ 60 := by rw [List.length_take, lm]; omega
    refine ⟨_, rfl, _, _, rfl, rfl, ⟨by decide, by decide⟩, _, _, rfl, rfl, (by show (0 : Int) < 3; decide), rfl, _, rfl, iteDd (fun _ => ?_) (fun _ => ?_)⟩
    · refine ⟨_, rfl, _, rfl, _, rfl, a, _, rfl, a3, fun b1 H4 s4 hb1 => ⟨_, rfl, (by show 1 ≤ sizeLine; decide), fun b2 hb2 => ?_⟩⟩
      rw [cut_take'] at hb1
      have s5 := same_new hb2 (.tup [.int o])
      refine ⟨b1, b2, _, _, rfl, rfl, s5 _ _ hb1, upd_same, fits2 (by rw [List.length_singleton]; omega), fun b3 H6 s6 hb3 => k (q.take j ++ [o]) b3 H6 (s2.trans (s3.trans (s4.trans (s5.trans s6)))) ?_ (atT_odd hui hodd') ?_⟩
      · rw [hb3, List.map_append, List.map_take]
        rfl
      · rw [List.length_append, List.length_take, List.length_singleton]
        omega
    · refine ⟨_, rfl, _, rfl, _, rfl, a, _, rfl, a3, fun b1 H4 s4 hb1 => ⟨_, rfl, (by show 1 ≤ sizeLine; decide), fun b2 hb2 => ?_⟩⟩
      rw [cut_take'] at hb1
      have s5 := same_new hb2 (.tup [.int o])
      refine ⟨b1, b2, _, _, rfl, rfl, s5 _ _ hb1, upd_same, fits2 (by rw [List.length_singleton]; omega), fun b3 H6 s6 hb3 => ?_⟩
      have s46 := s4.trans (s5.trans s6)
      refine ⟨_, rfl, _, rfl, _, _, rfl, rfl, _, rfl, a, _, rfl, s46 _ _ a3, fun b4 H7 s7 hb4 => ?_⟩
      rw [cut_dropI (by omega), show ((j : Int) + 1).toNat = j + 1 by omega] at hb4
      refine ⟨b3, b4, _, _, rfl, rfl, s7 _ _ hb3, hb4, fits2 (by rw [List.length_append, List.length_drop, List.length_singleton, lm]; omega), fun b5 H8 s8 hb5 => k (q.take j ++ o :: q.drop (j + 1)) b5 H8 (s2.trans (s3.trans (s46.trans (s7.trans s8)))) ?_ (atT_odd hui hodd') ?_⟩
      · rw [hb5, List.map_append, List.map_take, List.map_cons, List.map_drop, List.append_assoc]
        rfl
      · rw [List.length_append, List.length_take, List.length_cons, List.length_drop]
        omega
theorem ok_lp (X : Tx K mg T) : FnOk P w K mg base CX0 50 T.qlpaths T.d_qlpaths ["_law_tree", "_law_due"] spLP := by
  have G_qpaths := (ok_paths (P := P) (w := w) (base := base) X 40).mono (show 41 ≤ 49 by decide)
  have G_qsame := (ok_same (P := P) (w := w) (base := base) X 2).mono (show 4 ≤ 49 by decide)
  refine X.F_qlpaths.okQ sc_qlpaths (fun vs H Q E h => ?_) (fun cdv A outer s H vs Q E hr h => ?_)
  · obtain ⟨_, _, _, _, rfl, _⟩ := h
    rfl
  obtain ⟨t, v, D, us, rfl, hv, hd, hz, hD, hus, q⟩ := h
  refine ⟨_, (qss_cons (qs_set (i := 2) sc_qlpaths.nd rfl (Or.inl rfl) (qe_call G_qpaths hr rfl X.m_qpaths X.F_qpaths.kp X.b_qpaths .nil pass0 (qaN (qv 0) qa_nil))) (qss_cons (qs_if (qw_pt (qw_or (qt_not (qt_val (qe_callB call_isinst rfl X.z_isinstance PyProof.Rows.boot_isinstance (qaN (qv 2) (qaN (qe_bltn rfl X.z_list PyProof.Rows.boot_list rfl (v := .ty "list")) qa_nil))))) (qw_or1 (qt_not (qt_val (qe_call G_qsame hr rfl X.m_qsame X.F_qsame.kp X.b_qsame .nil pass0 (qaK (qe_callTy call_tuple_of rfl X.z_tuple PyProof.Rows.boot_tuple (qaN (qv 2) qa_nil)) (qaK (qe_callTy call_tuple_of rfl X.z_tuple PyProof.Rows.boot_tuple (qaN (qv 1) qa_nil)) qa_nil)))))))) qss_never qss_nil) (qss_cons (qs_expr (qe_bm PySem.F.plainAttrs_list PySem.F.slot_list_append PySem.F.type_list_append mt_append (qv 2) (qaT (qe_tup (qaC qe_int (qaC qe_int qa_nil))) qa_nil))) (qss_one (qs_ret qe_bl))))), ?_⟩
  refine ⟨_, rfl, t, v, rfl, hv, by omega, by omega, fun D1 us1 H1 s1 nD1 hD1 hus1 => ?_⟩
  have l1 := hus1.len
  have l0 := hus.len
  have lp := pths_len t
  refine ⟨_, rfl, _, "list", _, _, rfl, .lst hD1, k_ll, _, rfl, iteF ?_⟩
  refine ⟨_, rfl, D1, us1, rfl, .inl ⟨SqL.of hD1, fun t1 ht1 => ?_⟩⟩
  have s2 := same_new ht1 (.tup us1)
  refine ⟨_, rfl, D, us, rfl, .inl ⟨SqL.of (s2 _ _ (s1 _ _ hD)), fun t2 ht2 => ?_⟩⟩
  have s3 := same_new ht2 (.tup us)
  have s13 := s2.trans s3
  refine ⟨_, _, rfl, .tup (s3 _ _ upd_same) upd_same (by omega) (by omega) (al_list (R := PthIs (upd (upd H1 t1 (.tup us1)) t2 (.tup us))) (fun p hp x y hx hy => al_pth hx hy ?_) (hus1.imp fun _ _ => PthIs.same (sameT s13)) (hus.imp fun _ _ => PthIs.same (sameT (s1.trans s13)))), fun H4 s4 => ⟨_, rfl, iteF ?_⟩⟩
  · have := pths_short t hp
    omega
  have s14 := s13.trans s4
  have hD4 := s14 _ _ hD1
  refine ⟨_, rfl, .inl ⟨rfl, _, SqL.of hD4⟩, (by show 2 ≤ sizeLine; decide), fun t3 ht3 => ?_⟩
  have s5 := same_new ht3 (.tup [.int 1, .int 1])
  refine ⟨D1, us1, _, rfl, rfl, s5 _ _ hD4, fitsL (by omega), ?_⟩
  exact q _ (same_upd nD1 (s1.trans (s14.trans s5)))
theorem ok_ref (X : Tx K mg T) : FnOk P w K mg base CX0 70 T.qrefused T.d_qrefused ["_law_tree", "_law_path", "_law_branch", "_law_putting"] spRef := by
  have G_qputin := (ok_put (P := P) (w := w) (base := base) X 62).mono (show 64 ≤ 69 by decide)
  have G_qbranchat := (ok_at (P := P) (w := w) (base := base) X).mono (show 1 ≤ 69 by decide)
  refine X.F_qrefused.okQ sc_qrefused (fun vs H Q E h => ?_) (fun cdv A outer s H vs Q E hr h => ?_)
  · obtain ⟨_, _, _, _, _, _, _, rfl, _⟩ := h
    rfl
  obtain ⟨t, b, v, x, q, a, pb, rfl, hv, hx, ha, hn, hq, hz, k⟩ := h
  refine ⟨_, (qss_cons (qs_set (i := 4) sc_qrefused.nd rfl (Or.inl rfl) (qe_lst qa_nil)) (qss_cons (qs_tryIf (i := 5) (qt_val (qv 3)) G_qputin hr rfl X.m_qputin X.F_qputin.kp X.b_qputin (qaN (qv 0) (qaN (qv 1) (qaN (qv 2) qa_nil))) G_qbranchat hr rfl X.m_qbranchat X.F_qbranchat.kp X.b_qbranchat (qaN (qv 0) (qaN (qv 1) qa_nil)) rfl X.m_LeafError X.e_LeafError sc_qrefused.nd rfl rfl rfl rfl rfl (fun _ => (qss_cons (qs_set (i := 4) sc_qrefused.nd rfl (Or.inl rfl) (qe_lst (qaK (qe_callB (call_isxC (K := K) rfl) rfl X.z_isinstance PyProof.Rows.boot_isinstance (qaN (qv 5) (qaN (qe_glob rfl X.m_NoPlace (v := V.ref T.k_NoPlace) rfl) qa_nil))) (qaK (qe_callB (call_isxC (K := K) rfl) rfl X.z_isinstance PyProof.Rows.boot_isinstance (qaN (qv 5) (qaN (qe_bltn rfl X.z_ValueError boot_VE rfl (v := .ty "ValueError")) qa_nil))) qa_nil)))) (qss_one (qs_expr (qe_bmC (K := K) rfl PySem.F.plainAttrs_list PySem.F.slot_list_append PySem.F.type_list_append mt_append (qv 4) (qaK (qe_callB (call_isxC (K := K) rfl) rfl X.z_isinstance PyProof.Rows.boot_isinstance (qaN (qv 5) (qaT (qe_tup (qaN (qe_glob rfl X.m_NoText (v := V.ref T.k_NoText) rfl) (qaN (qe_glob rfl X.m_TooGreat (v := V.ref T.k_TooGreat) rfl) (qaN (qe_glob rfl X.m_NoName (v := V.ref T.k_NoName) rfl) (qaN (qe_glob rfl X.m_NoRule (v := V.ref T.k_NoRule) rfl) (qaN (qe_glob rfl X.m_NoKind (v := V.ref T.k_NoKind) rfl) (qaN (qe_glob rfl X.m_NoTree (v := V.ref T.k_NoTree) rfl) (qaN (qe_glob rfl X.m_NoGiven (v := V.ref T.k_NoGiven) rfl) (qaN (qe_glob rfl X.m_NoWalk (v := V.ref T.k_NoWalk) rfl) (qaN (qe_glob rfl X.m_Ring (v := V.ref T.k_Ring) rfl) qa_nil)))))))))) qa_nil))) qa_nil))))))) (qss_one (qs_ret (qe_cmpR (op_eqD hr.units) (qv 4) (qe_lst (qaC qe_bl (qaC qe_bl (qaC qe_bl qa_nil)))) (nomark _)))))), ?_⟩
  refine ⟨(by show 0 ≤ sizeLine; decide), fun o1 ho1 => ?_⟩
  have O1 := same_new ho1 (.lst [])
  have hv1 := TrIs.same (sameT O1) t hv
  have hx1 := TrIs.same (sameT O1) b hx
  have ha1 := O1 _ _ ha
  generalize upd H o1 (.lst []) = H1 at O1 hv1 hx1 ha1 ⊢
  refine ⟨_, rfl, _, rfl, ?_⟩
  cases pb
  · refine iteF ⟨_, rfl, _, rfl, t, v, q, a, rfl, hv1, ha1, (fun u y e _ => by rw [hn] at e; cases e), fun _ H2 s2 => ?_⟩
    refine ⟨T.k_NoPlace, rfl, X.e_NoPlace, X.u_NoPlace_LeafError, fun ex hex => ?_⟩
    have E1 := same_new hex (excO ex T.k_NoPlace)
    refine ⟨_, rfl, ex, T.k_NoPlace, _, _, rfl, upd_same, X.x_NoPlace, .inl ⟨_, rfl, X.i_NoPlace_0⟩, ?_⟩
    refine ⟨_, rfl, ex, T.k_NoPlace, _, _, rfl, upd_same, X.x_NoPlace, .inr (.inl ⟨_, rfl, X.i_NoPlace_1⟩), (by show 2 ≤ sizeLine; decide), fun p1 hp1 => ?_⟩
    have E2 := same_new hp1 (.lst [.bl true, .bl true])
    have hp1' := upd_same (H := upd H2 ex (excO ex T.k_NoPlace)) (a := p1) (o := .lst [.bl true, .bl true])
    have hex' := E2 _ _ (upd_same (H := H2) (a := ex) (o := excO ex T.k_NoPlace))
    have np1 : H p1 = none := (O1.trans (s2.trans E1)).free hp1
    refine ⟨_, rfl, .inl ⟨rfl, _, SqL.of hp1'⟩, _, rfl, (by show 9 ≤ sizeLine; decide), fun tp htp => ?_⟩
    have E3 := same_new htp (.tup ([T.k_NoText, T.k_TooGreat, T.k_NoName, T.k_NoRule, T.k_NoKind, T.k_NoTree, T.k_NoGiven, T.k_NoWalk, T.k_Ring].map V.ref))
    refine ⟨ex, T.k_NoPlace, _, _, rfl, E3 _ _ hex', X.x_NoPlace, .inr (.inr ⟨tp, [T.k_NoText, T.k_TooGreat, T.k_NoName, T.k_NoRule, T.k_NoKind, T.k_NoTree, T.k_NoGiven, T.k_NoWalk, T.k_Ring], rfl, upd_same, X.i_NoPlace_2⟩), p1, _, _, rfl, rfl, E3 _ _ hp1', (by show 2 < sizeLine; decide), ?_⟩
    refine ⟨_, rfl, (by show 3 ≤ sizeLine; decide), fun r1 hr1 => ?_⟩
    have E5 := same_new hr1 (.lst [.bl true, .bl true, .bl false])
    refine ⟨p1, r1, [.bl true, .bl true, .bl false], [.bl true, .bl true, .bl false], [.fl (.bl true), .fl (.bl true), .fl (.bl false)], [.fl (.bl true), .fl (.bl true), .fl (.bl false)], rfl, rfl, .inr ⟨SqL.of (E5 _ _ upd_same), SqL.of upd_same⟩, isds3, isds3, by decide, ?_⟩
    exact k _ ((same_upd np1 (O1.trans (s2.trans (E1.trans (E2.trans E3))))).trans E5)
  · refine iteT ⟨_, rfl, _, rfl, _, rfl, t, b, v, x, q, a, rfl, hv1, hx1, ha1, hq, by omega, (fun r y H' e _ _ => by rw [putT_none hn] at e; cases e), fun _ H2 s2 => ?_⟩
    refine ⟨T.k_NoPlace, rfl, X.e_NoPlace, X.u_NoPlace_LeafError, fun ex hex => ?_⟩
    have E1 := same_new hex (excO ex T.k_NoPlace)
    refine ⟨_, rfl, ex, T.k_NoPlace, _, _, rfl, upd_same, X.x_NoPlace, .inl ⟨_, rfl, X.i_NoPlace_0⟩, ?_⟩
    refine ⟨_, rfl, ex, T.k_NoPlace, _, _, rfl, upd_same, X.x_NoPlace, .inr (.inl ⟨_, rfl, X.i_NoPlace_1⟩), (by show 2 ≤ sizeLine; decide), fun p1 hp1 => ?_⟩
    have E2 := same_new hp1 (.lst [.bl true, .bl true])
    have hp1' := upd_same (H := upd H2 ex (excO ex T.k_NoPlace)) (a := p1) (o := .lst [.bl true, .bl true])
    have hex' := E2 _ _ (upd_same (H := H2) (a := ex) (o := excO ex T.k_NoPlace))
    have np1 : H p1 = none := (O1.trans (s2.trans E1)).free hp1
    refine ⟨_, rfl, .inl ⟨rfl, _, SqL.of hp1'⟩, _, rfl, (by show 9 ≤ sizeLine; decide), fun tp htp => ?_⟩
    have E3 := same_new htp (.tup ([T.k_NoText, T.k_TooGreat, T.k_NoName, T.k_NoRule, T.k_NoKind, T.k_NoTree, T.k_NoGiven, T.k_NoWalk, T.k_Ring].map V.ref))
    refine ⟨ex, T.k_NoPlace, _, _, rfl, E3 _ _ hex', X.x_NoPlace, .inr (.inr ⟨tp, [T.k_NoText, T.k_TooGreat, T.k_NoName, T.k_NoRule, T.k_NoKind, T.k_NoTree, T.k_NoGiven, T.k_NoWalk, T.k_Ring], rfl, upd_same, X.i_NoPlace_2⟩), p1, _, _, rfl, rfl, E3 _ _ hp1', (by show 2 < sizeLine; decide), ?_⟩
    refine ⟨_, rfl, (by show 3 ≤ sizeLine; decide), fun r1 hr1 => ?_⟩
    have E5 := same_new hr1 (.lst [.bl true, .bl true, .bl false])
    refine ⟨p1, r1, [.bl true, .bl true, .bl false], [.bl true, .bl true, .bl false], [.fl (.bl true), .fl (.bl true), .fl (.bl false)], [.fl (.bl true), .fl (.bl true), .fl (.bl false)], rfl, rfl, .inr ⟨SqL.of (E5 _ _ upd_same), SqL.of upd_same⟩, isds3, isds3, by decide, ?_⟩
    exact k _ ((same_upd np1 (O1.trans (s2.trans (E1.trans (E2.trans E3))))).trans E5)
end
end K21
set_option Elab.async false
set_option linter.all false
set_option maxRecDepth 100000
set_option maxHeartbeats 4000000
namespace K21
open PySem L2 TR
open TM
def spRight : Sp := fun vs H Q _ => ∃ (t b r : Tr) (v x y : V) (q : List Int) (a : Addr), vs = [v, .ref a, x, y] ∧ TrIs H t v ∧ TrIs H b x ∧ TrIs H r y ∧ H a = some (.tup (q.map V.int)) ∧ putT q t b = some r ∧ size t ≤ 60 ∧ deep t ≤ 40 ∧ size b ≤ 60 ∧ deep b ≤ 40 ∧ ∀ H', Same H H' → Q (.bl true) H'
section
variable {P : Program} {w : World} {K : PySem.W.Frag} {mg : Str → Option Value} {base : Heap} {T : Adr}
theorem ok_right (X : Tx K mg T) : FnOk P w K mg base CX0 90 T.qputright T.d_qputright ["_law_tree", "_law_path", "_law_branch", "_law_found"] spRight := by
  have G_qsame := (ok_same (P := P) (w := w) (base := base) X 80).mono (show 82 ≤ 89 by decide)
  refine X.F_qputright.okQ sc_qputright (fun vs H Q E h => ?_) (fun cdv A outer s H vs Q E hr h => ?_)
  · obtain ⟨_, _, _, _, _, _, _, _, rfl, _⟩ := h
    rfl
  obtain ⟨t, b, r, v, x, y, q, a, rfl, hv, hx, hy, ha, hput, hz, hd, zb, db, k⟩ := h
  refine ⟨_, (qss_cons (qs_for PassesOwn.never rfl (qi_tup (qv 1)) (qg_name (i := 4) sc_qputright.nd rfl (Or.inl rfl)) (qss_cons (qs_if (qw_pt (qw_or (qt_not (qt_val (qe_callB call_isinst rfl X.z_isinstance PyProof.Rows.boot_isinstance (qaN (qv 3) (qaN (qe_bltn rfl X.z_tuple PyProof.Rows.boot_tuple rfl (v := .ty "tuple")) qa_nil))))) (qw_or (qt_cmpR op_ne (qe_callB call_len_seq rfl X.z_len PySem.boot_len (qaN (qv 3) qa_nil)) qe_int (nomark _)) (qw_or1 (qt_not (qt_val (qe_callB call_isinst rfl X.z_isinstance PyProof.Rows.boot_isinstance (qaS (qe_ix ix_tup (qv 3) qe_int (fun _ _ => rfl)) (qaN (qe_bltn rfl X.z_tuple PyProof.Rows.boot_tuple rfl (v := .ty "tuple")) qa_nil))))))))) qss_never qss_nil) (qss_cons (qs_if (qw_pt (qw_or (qt_not (qt_val (qe_call G_qsame hr rfl X.m_qsame X.F_qsame.kp X.b_qsame .nil pass0 (qaS (qe_slice sl_tupA (qv 3) qo_none (qo_some qe_int)) (qaS (qe_slice sl_tupA (qv 0) qo_none (qo_some qe_int)) qa_nil))))) (qw_or1 (qt_cmpR op_ne (qe_callB call_len_seq rfl X.z_len PySem.boot_len (qaS (qe_ix ix_tup (qv 3) qe_int (fun _ _ => rfl)) qa_nil)) (qe_callB call_len_seq rfl X.z_len PySem.boot_len (qaS (qe_ix ix_tup (qv 0) qe_int (fun _ _ => rfl)) qa_nil)) (nomark _))))) qss_never qss_nil) (qss_cons (qs_for PassesOwn.never rfl (qi_range1 rfl X.z_range (qaK (qe_callB call_len_seq rfl X.z_len PySem.boot_len (qaS (qe_ix ix_tup (qv 0) qe_int (fun _ _ => rfl)) qa_nil)) qa_nil)) (qg_name (i := 5) sc_qputright.nd rfl (Or.inl rfl)) (qss_one (qs_if (qw_pt (qw_and (qt_cmpR op_ne (qv 5) (qe_op op_sub (qv 4) qe_int) (nomark _)) (qw_and1 (qt_not (qt_val (qe_call G_qsame hr rfl X.m_qsame X.F_qsame.kp X.b_qsame .nil pass0 (qaS (qe_ix ix_tup (qe_ix ix_tup (qv 3) qe_int (fun _ _ => rfl)) (qv 5) (fun _ _ => rfl)) (qaS (qe_ix ix_tup (qe_ix ix_tup (qv 0) qe_int (fun _ _ => rfl)) (qv 5) (fun _ _ => rfl)) qa_nil)))))))) qss_never qss_nil))) (qss_cons (qs_set (i := 0) sc_qputright.nd rfl (Or.inl rfl) (qe_ix ix_tup (qe_ix ix_tup (qv 0) qe_int (fun _ _ => rfl)) (qe_op op_sub (qv 4) qe_int) (fun _ _ => rfl))) (qss_one (qs_set (i := 3) sc_qputright.nd rfl (Or.inl rfl) (qe_ix ix_tup (qe_ix ix_tup (qv 3) qe_int (fun _ _ => rfl)) (qe_op op_sub (qv 4) qe_int) (fun _ _ => rfl))))))))) (qss_one (qs_ret (qe_call G_qsame hr rfl X.m_qsame X.F_qsame.kp X.b_qsame .nil pass0 (qaN (qv 3) (qaN (qv 2) qa_nil)))))), ?_⟩
  refine ⟨_, rfl, a, rfl, ⟨_, SqT.of ha⟩, for_tup (K := K) (a := a) (xs := q.map V.int) (fun i σ H' => ∃ (v' y' : V) (x4 x5 : Option V) (t' r' : Tr), σ = [some v', some (.ref a), some x, some y', x4, x5] ∧ Same H H' ∧ TrIs H' t' v' ∧ TrIs H' r' y' ∧ putT (q.drop i) t' b = some r' ∧ size t' ≤ 60 ∧ deep t' ≤ 40)
    ⟨v, y, none, none, t, r, rfl, Same.refl _, hv, hy, by rw [List.drop_zero]; exact hput, hz, hd⟩ (fun i σ H' _ ⟨_, _, _, _, _, _, _, sm, _⟩ => SqT.of (sm _ _ ha)) ?_ ?_⟩
  · rintro i z σ H1 hz' ⟨v', y', x4, x5, t', r', rfl, sm, hv1, hy1, hp1, zt, dt⟩
    rw [List.getElem?_map] at hz'
    obtain ⟨kk, hk, rfl⟩ := Option.map_eq_some_iff.mp hz'
    obtain ⟨hi, ek⟩ := List.getElem?_eq_some_iff.mp hk
    rw [List.drop_eq_getElem_cons hi, ek] at hp1
    obtain ⟨k1, k2, c, c', hc, cm, hpc, rfl⟩ := putT_cons hp1
    obtain ⟨p, b1, us, rfl, hp, hb1, hus⟩ := hv1.op
    obtain ⟨p', b2, ws, rfl, hp', hb2, hws⟩ := hy1.op
    have lus := hus.len
    have lws := hws.len
    have lws' : ws.length = t'.bs.length := by rw [lws]; show (t'.bs.set (kk - 1).toNat c').length = _; rw [List.length_set]
    have lbs := bs_len zt
    have hp'' : H1 p' = some (.tup [.str t'.nm, .int t'.mk', .ref b2]) := hp'
    refine ⟨_, rfl, _, "tuple", _, _, rfl, .tup hp'', k_tt, _, rfl, iteF ⟨_, rfl, p', _, rfl, .inr (SqT.of hp''), rfl, _, rfl, iteNS rfl ⟨_, rfl, p', _, 2, _, rfl, rfl, SqT.of hp'', rfl, _, "tuple", _, _, rfl, .tup hb2, k_tt, _, rfl, iteF ?_⟩⟩⟩
    refine ⟨_, rfl, _, rfl, p', _, rfl, hp'', fun c1 H2 s2 hc1 => ⟨_, rfl, _, rfl, p, _, rfl, s2 _ _ hp, fun c2 H3 s3 hc2 => ?_⟩⟩
    rw [show (some 2 : Option Int) = some ((2 : Nat) : Int) from rfl, cut_take'] at hc1 hc2
    have s23 := s2.trans s3
    refine ⟨_, _, rfl, (al_two (n := 0) (s3 _ _ hc1) hc2 (.str _) (.int _)).mono (by omega), fun H4 s4 => ⟨_, rfl, iteF ?_⟩⟩
    have s14 := s23.trans s4
    refine ⟨_, rfl, p', _, 2, _, rfl, rfl, SqT.of (s14 _ _ hp''), rfl, b2, ws, rfl, .inr (SqT.of (s14 _ _ hb2)), _, rfl, p, _, 2, _, rfl, rfl, SqT.of (s14 _ _ hp), rfl, b1, us, rfl, .inr (SqT.of (s14 _ _ hb1)), rfl, _, rfl, iteNS (by rw [lws', lus]) ?_⟩
    refine ⟨_, rfl, p, _, 2, _, rfl, rfl, SqT.of (s14 _ _ hp), rfl, b1, us, rfl, .inr (SqT.of (s14 _ _ hb1)), _, rfl, by omega, by omega, ?_⟩
    rw [Int.toNat_natCast]
    refine for_range (fun j σ H' => (∃ x5, σ = [some (.ref p), some (.ref a), some x, some (.ref p'), some (.int kk), x5]) ∧ Same H1 H') ⟨⟨_, rfl⟩, s14⟩ ?_ ?_
    · rintro j σ H5 hj ⟨⟨x5', rfl⟩, s5⟩
      refine ⟨_, rfl, _, rfl, _, _, rfl, rfl, rfl, _, rfl, iteNe (fun hne => ?_) (fun _ => ?_)⟩
      · have hjk : j ≠ (kk - 1).toNat := fun z => hne (by rw [z, show ((0 : Int) + (((kk - 1).toNat : Nat) : Int)) = kk - 1 by omega])
        obtain ⟨y1, hy1'⟩ := some_of_lt (xs := us) hj
        obtain ⟨y2, hy2'⟩ := some_of_lt (xs := ws) (i := j) (by omega)
        obtain ⟨d1, hd1, g1⟩ := hus.get hy1'
        obtain ⟨d2, hd2, g2⟩ := hws.get hy2'
        have e12 : d2 = d1 := by
          have : (t'.bs.set (kk - 1).toNat c')[j]? = some d2 := hd2
          rw [List.getElem?_set_ne (Ne.symm hjk), hd1] at this
          exact (Option.some.inj this).symm
        subst e12
        have dm : d2 ∈ t'.bs := List.mem_of_getElem? hd1
        have := deep_br dm
        have := size_br dm
        have e0 : (0 : Int) + (j : Int) = ((j : Nat) : Int) := by omega
        refine ⟨_, rfl, p', _, 2, _, rfl, rfl, SqT.of (s5 _ _ hp''), rfl, _, rfl, b2, ws, _, y2, rfl, rfl, SqT.of (s5 _ _ hb2), by rw [e0]; exact atI_nat hy2', _, rfl, p, _, 2, _, rfl, rfl, SqT.of (s5 _ _ hp), rfl, _, rfl, b1, us, _, y1, rfl, rfl, SqT.of (s5 _ _ hb1), by rw [e0]; exact atI_nat hy1', _, _, rfl, ?_, fun H6 s6 => ⟨_, rfl, iteF ⟨⟨_, rfl⟩, s5.trans s6⟩⟩⟩
        exact (al_tr d2 (TrIs.same (sameT s5) d2 g2) (TrIs.same (sameT s5) d2 g1) (by omega)).mono (by omega)
      · exact ⟨⟨_, rfl⟩, s5⟩
    · rintro σ H5 ⟨⟨x5', rfl⟩, s5⟩
      have e1 : kk - 1 = (((kk - 1).toNat : Nat) : Int) := by omega
      obtain ⟨y1, hy1'⟩ := some_of_lt (xs := us) (i := (kk - 1).toNat) (by omega)
      obtain ⟨y2, hy2'⟩ := some_of_lt (xs := ws) (i := (kk - 1).toNat) (by omega)
      obtain ⟨d1, hd1, g1⟩ := hus.get hy1'
      obtain ⟨d2, hd2, g2⟩ := hws.get hy2'
      rw [hc] at hd1
      cases hd1
      have e2 : d2 = c' := by
        have : (t'.bs.set (kk - 1).toNat c')[(kk - 1).toNat]? = some d2 := hd2
        rw [List.getElem?_set_self (by omega)] at this
        exact (Option.some.inj this).symm
      subst e2
      have := deep_br cm
      have := size_br cm
      refine ⟨_, rfl, p, _, 2, _, rfl, rfl, SqT.of (s5 _ _ hp), rfl, _, rfl, _, _, rfl, rfl, b1, us, _, y1, rfl, rfl, SqT.of (s5 _ _ hb1), by rw [e1]; exact atI_nat hy1', ?_⟩
      refine ⟨_, rfl, p', _, 2, _, rfl, rfl, SqT.of (s5 _ _ hp''), rfl, _, rfl, _, _, rfl, rfl, b2, ws, _, y2, rfl, rfl, SqT.of (s5 _ _ hb2), by rw [e1]; exact atI_nat hy2', ?_⟩
      exact ⟨y1, y2, _, _, _, _, rfl, sm.trans s5, TrIs.same (sameT s5) _ g1, TrIs.same (sameT s5) _ g2, hpc, by omega, by omega⟩
  · rintro σ H1 ⟨v', y', x4, x5, t', r', rfl, sm, hv1, hy1, hp1, zt, dt⟩
    rw [List.length_map, List.drop_length] at hp1
    cases hp1
    refine ⟨_, rfl, _, rfl, _, _, rfl, ?_, fun H2 s2 => k H2 (sm.trans s2)⟩
    exact (al_tr b hy1 (TrIs.same (sameT sm) b hx) (by omega)).mono (by omega)
end
end K21
set_option Elab.async false
set_option linter.all false
set_option maxRecDepth 100000
set_option maxHeartbeats 4000000
namespace K21
open PySem L2 TR
open TM
theorem passE0 {P : Program} {w : World} {X : Cx} : Passes (CXe P w) X E0 := fun _ _ _ _ _ _ _ h => by
  obtain ⟨_, _, _, _, _, z⟩ := h
  exact z.elim
def spLaw (K : PySem.W.Frag) : Sp := fun vs H Q _ => ∃ (a : Addr) (ns : List Int), vs = [.ref a] ∧ SqL K H a (ns.map V.int) ∧ ns.length ≤ 63 ∧ ∀ H', Q (.bl true) H'
section
variable {P : Program} {w : World} {K : PySem.W.Frag} {mg : Str → Option Value} {base : Heap} {T : Adr}
theorem ok_law (X : Tx K mg T) : FnOk P w K mg base CX0 120 T.law T.d_law ["_law_script"] (spLaw K) := by
  have G_qbuilt := (ok_built (P := P) (w := w) (base := base) X).mono (show 2 ≤ 119 by decide)
  have G_qnodes := (ok_nodes (P := P) (w := w) (base := base) X).mono (show 1 ≤ 119 by decide)
  have G_qlpaths := (ok_lp (P := P) (w := w) (base := base) X).mono (show 50 ≤ 119 by decide)
  have G_qodd := (ok_odd (P := P) (w := w) (base := base) X).mono (show 1 ≤ 119 by decide)
  have G_qrefused := (ok_ref (P := P) (w := w) (base := base) X).mono (show 70 ≤ 119 by decide)
  have G_qsame := (ok_same (P := P) (w := w) (base := base) X 80).mono (show 82 ≤ 119 by decide)
  have G_qbranchat := (ok_at (P := P) (w := w) (base := base) X).mono (show 1 ≤ 119 by decide)
  have G_qputin := (ok_put (P := P) (w := w) (base := base) X 62).mono (show 64 ≤ 119 by decide)
  have G_qputright := (ok_right (P := P) (w := w) (base := base) X).mono (show 90 ≤ 119 by decide)
  refine X.F_law.okQ sc_law (fun vs H Q E h => ?_) (fun cdv A outer s H vs Q E hr h => ?_)
  · obtain ⟨_, _, rfl, _⟩ := h
    rfl
  obtain ⟨a, ns, rfl, hS, h63, k⟩ := h
  refine ⟨_, (qss_cons (qs_set (i := 1) sc_law.nd rfl (Or.inl rfl) qe_int) (qss_cons (qs_for PassesOwn.never rfl (qi_list (qe_slice sl_list (qv 0) qo_none (qo_some qe_int))) (qg_name (i := 2) sc_law.nd rfl (Or.inl rfl)) (qss_one (qs_set (i := 1) sc_law.nd rfl (Or.inl rfl) (qe_op op_mod (qe_op op_add (qe_op op_mul (qv 1) qe_int) (qv 2)) qe_int)))) (qss_cons (qs_set (i := 3) sc_law.nd rfl (Or.inl rfl) (qe_call G_qbuilt hr rfl X.m_qbuilt X.F_qbuilt.kp X.b_qbuilt .nil pass0 (qaN (qv 0) (qaN (qv 1) (qaC qe_int qa_nil))))) (qss_cons (qs_set (i := 4) sc_law.nd rfl (Or.inl rfl) (qe_call G_qnodes hr rfl X.m_qnodes X.F_qnodes.kp X.b_qnodes .nil pass0 (qaN (qv 3) qa_nil))) (qss_cons (qs_setC (ys := []) (js := []) rfl rfl (qi_list (qv 4)) (fun _ _ _ _ _ => qif_nil) (fun _ _ _ _ _ => (qe_ix (ix_tupC (K := K) rfl) (qv 0) qe_int (fun _ _ => rfl))) (qg_name (i := 5) sc_law.nd rfl (Or.inl rfl)) rfl) (qss_cons (qs_if (qw_pt (qw_or (qt_not (qt_val (qe_call G_qlpaths hr rfl X.m_qlpaths X.F_qlpaths.kp X.b_qlpaths .nil pass0 (qaN (qv 3) (qaN (qv 5) qa_nil))))) (qw_or1 (qt_not (qt_val (qe_call G_qlpaths hr rfl X.m_qlpaths X.F_qlpaths.kp X.b_qlpaths .nil pass0 (qaN (qv 3) (qaN (qv 5) qa_nil)))))))) qss_never qss_nil) (qss_cons (qs_for PassesOwn.never rfl (qi_range1 rfl X.z_range (qaC qe_int qa_nil)) (qg_name (i := 6) sc_law.nd rfl (Or.inl rfl)) (qss_cons (qs_set (i := 7) sc_law.nd rfl (Or.inl rfl) (qe_op op_mod (qe_op op_mul (qe_op op_add (qv 1) (qe_op op_mul (qv 6) (qv 6))) qe_int) qe_int)) (qss_cons (qs_asg (qe_ix ix_list (qv 4) (qe_op op_mod (qv 7) (qe_callB call_len_seq rfl X.z_len PySem.boot_len (qaN (qv 4) qa_nil))) (fun _ _ => rfl)) (qg_tup rfl (qgs_cons (qg_name (i := 8) sc_law.nd rfl (Or.inl rfl)) (qgs_cons (qg_name (i := 9) sc_law.nd rfl (Or.inl rfl)) qgs_nil)))) (qss_cons (qs_set (i := 10) sc_law.nd rfl (Or.inl rfl) (qe_ix ix_list (qe_lst (qaS (qe_ix ix_tup (qe_ix ix_list (qv 4) (qe_op op_mod (qe_op op_fdiv (qv 7) qe_int) (qe_callB call_len_seq rfl X.z_len PySem.boot_len (qaN (qv 4) qa_nil))) (fun _ _ => rfl)) qe_int (fun _ _ => rfl)) (qaT (qe_tup (qaC qe_str (qaN (qv 7) (qaT (qe_tup qa_nil) qa_nil)))) qa_nil))) (qe_op op_mod (qv 6) qe_int) (fun _ _ => rfl))) (qss_cons (qs_set (i := 11) sc_law.nd rfl (Or.inl rfl) (qe_call G_qodd hr rfl X.m_qodd X.F_qodd.kp X.b_qodd .nil pass0 (qaN (qv 3) (qaN (qv 8) (qaB (qe_op op_fdiv (qv 7) qe_int) qa_nil))))) (qss_cons (qs_if (qw_pt (qw_or (qt_not (qt_val (qe_call G_qrefused hr rfl X.m_qrefused X.F_qrefused.kp X.b_qrefused .nil pass0 (qaN (qv 3) (qaN (qv 11) (qaN (qv 10) (qaM (qe_cmpR op_eq (qe_op op_mod (qv 7) qe_int) qe_int (nomark _)) qa_nil))))))) (qw_or1 (qt_not (qt_val (qe_call G_qrefused hr rfl X.m_qrefused X.F_qrefused.kp X.b_qrefused .nil pass0 (qaN (qv 3) (qaN (qv 11) (qaN (qv 10) (qaM (qe_cmpR op_lt (qv 6) qe_int (nomark _)) qa_nil)))))))))) qss_never qss_nil) (qss_cons (qs_if (qt_not (qt_val (qe_call G_qsame hr rfl X.m_qsame X.F_qsame.kp X.b_qsame .nil pass0 (qaK (qe_call G_qbranchat hr rfl X.m_qbranchat X.F_qbranchat.kp X.b_qbranchat .nil passE0 (qaN (qv 3) (qaN (qv 8) qa_nil))) (qaN (qv 9) qa_nil))))) qss_never qss_nil) (qss_one (qs_if (qt_not (qt_val (qe_call G_qputright hr rfl X.m_qputright X.F_qputright.kp X.b_qputright .nil pass0 (qaN (qv 3) (qaN (qv 8) (qaN (qv 10) (qaK (qe_call G_qputin hr rfl X.m_qputin X.F_qputin.kp X.b_qputin .nil passE0 (qaN (qv 3) (qaN (qv 8) (qaN (qv 10) qa_nil)))) qa_nil))))))) qss_never qss_nil))))))))) (qss_one (qs_ret (qe_call G_qlpaths hr rfl X.m_qlpaths X.F_qlpaths.kp X.b_qlpaths .nil pass0 (qaN (qv 3) (qaN (qv 5) qa_nil)))))))))))), ?_⟩
  refine ⟨_, rfl, _, rfl, a, _, rfl, hS, fun sl hsl => ?_⟩
  have ecs : cutV (ns.map V.int) none (some 59) = (ns.take 59).map V.int := by
    rw [show (some 59 : Option Int) = some ((59 : Nat) : Int) from rfl, cut_take', List.map_take]
  rw [ecs]
  have s0 := same_new hsl (.lst ((ns.take 59).map V.int))
  have hsl1 := upd_same (H := H) (a := sl) (o := .lst ((ns.take 59).map V.int))
  generalize upd H sl (.lst ((ns.take 59).map V.int)) = H1 at s0 hsl1 ⊢
  refine ⟨sl, rfl, ⟨_, SqL.of hsl1⟩, for_list (K := K) (a := sl) (xs := (ns.take 59).map V.int) (fun i σ H' => (∃ sd x2, σ = [some (.ref a), some (.int sd), x2, none, none, none, none, none, none, none, none, none]) ∧ H' = H1) ⟨⟨_, _, rfl⟩, rfl⟩ (fun i σ H' _ ⟨_, e⟩ => by rw [e]; exact SqL.of hsl1) ?_ ?_⟩
  · rintro i y σ H' hy ⟨⟨sd, x2, rfl⟩, rfl⟩
    rw [List.getElem?_map] at hy
    obtain ⟨c, _, rfl⟩ := Option.map_eq_some_iff.mp hy
    exact ⟨_, rfl, _, _, rfl, rfl, .inr ⟨by decide, by decide⟩, _, rfl, _, _, rfl, rfl, _, _, rfl, rfl, (by show (0 : Int) < 999999937; decide), ⟨_, _, rfl⟩, rfl⟩
  · rintro σ H' ⟨⟨sd, x2, rfl⟩, rfl⟩
    refine ⟨_, rfl, _, rfl, a, ns, sd, 28, rfl, s0.seq hS, h63, by decide, fun t v H2 s2 hv wt hz hd => ?_⟩
    refine ⟨_, rfl, t, v, rfl, hv, hz, fun D us H3 s3 hD hus => ?_⟩
    have hv3 := TrIs.same (sameT s3) t hv
    have lus := hus.len
    rw [nds_len] at lus
    have pz := size_pos t
    refine ⟨_, rfl, D, rfl, ⟨_, SqL.of hD⟩, fun D2 hD2 => ?_⟩
    refine comp_lstR (K := K) (R := PthIs) (as := (nds [] t).map Prod.fst) (OffD.ofT fun _ _ _ _ e r => PthIs.same e r) (fitsL (by omega)) (by rw [List.length_map, nds_len, lus]) (SqL.of hD) hD2 (fun i x q H4 hx hq s4 _ Q' k' => ?_) (fun ds H4 s4 hD4 hds => ?_)
    · obtain ⟨n, hn, c, b, u, rfl, hc, hb, _⟩ := hus.get hx
      rw [List.getElem?_map, hn] at hq
      cases hq
      exact ⟨_, rfl, c, _, 0, _, rfl, rfl, SqT.of (s4 _ _ hc), rfl, k' _ H4 (Same.refl _) ⟨b, rfl, s4 _ _ hb⟩⟩
    rw [nds_all] at hds
    have hv4 := TrIs.same (sameT s4) t hv3
    have hus4 := hus.imp fun _ _ => NdIs.same (sameT s4)
    have hDs := s4 _ _ hD
    refine ⟨_, rfl, _, rfl, t, v, D2, ds, rfl, hv4, by omega, hz, hD4, hds, fun H5 s5 => ⟨_, rfl, iteF ?_⟩⟩
    refine ⟨_, rfl, _, rfl, t, v, D2, ds, rfl, TrIs.same (sameT s5) t hv4, by omega, hz, s5 _ _ hD4, hds.imp fun _ _ => PthIs.same (sameT s5), fun H6 s6 => ⟨_, rfl, iteF ?_⟩⟩
    have s46 := s5.trans s6
    refine ⟨_, rfl, by decide, by decide, ?_⟩
    refine for_range (n := 6) (fun i σ H' => (∃ x6 x7 x8 x9 x10 x11, σ = [some (.ref a), some (.int sd), x2, some v, some (.ref D), some (.ref D2), x6, x7, x8, x9, x10, x11]) ∧ Same H4 H') ⟨⟨_, _, _, _, _, _, rfl⟩, s46⟩ ?_ ?_
    · rintro i σ H7 hi ⟨⟨x6, x7, x8, x9, x10, x11, rfl⟩, s7⟩
      refine ⟨_, rfl, _, rfl, _, rfl, _, _, rfl, rfl, .inl ⟨by show -(2 ^ 64) < (0 : Int) + (i : Int); omega, by show (0 : Int) + (i : Int) < 2 ^ 64; omega⟩, _, _, rfl, rfl, _, _, rfl, rfl, .inr ⟨by decide, by decide⟩, _, _, rfl, rfl, (by show (0 : Int) < 2147483647; decide), ?_⟩
      have n0 := Int.emod_nonneg ((sd + (0 + (i : Int)) * (0 + (i : Int))) * 48271) (show (2147483647 : Int) ≠ 0 by decide)
      try dsimp only
      generalize (sd + (0 + (i : Int)) * (0 + (i : Int))) * 48271 % 2147483647 = nu at n0 ⊢
      have hD7 := s7 _ _ hDs
      have hus7 := hus4.imp fun _ _ => NdIs.same (sameT s7)
      have hv7 := TrIs.same (sameT s7) t hv4
      have lpos : (0 : Int) < (us.length : Int) := by omega
      have pick : ∀ m : Int, ∃ (y : V) (q : List Int) (u : Tr), atI us (m % (us.length : Int)) = some y ∧ NdIs H7 (q, u) y ∧ atT q t = some u := fun m => by
        have m0 := Int.emod_nonneg m (show (us.length : Int) ≠ 0 by omega)
        have m1 := Int.emod_lt_of_pos m lpos
        obtain ⟨j, hj⟩ := Int.eq_ofNat_of_zero_le m0
        obtain ⟨y, hy⟩ := some_of_lt (xs := us) (i := j) (by omega)
        obtain ⟨⟨q, u⟩, hn, hq⟩ := hus7.get hy
        obtain ⟨r, e, h⟩ := nds_at t (List.mem_of_getElem? hn)
        rw [List.nil_append] at e
        subst e
        exact ⟨y, q, u, by rw [hj]; exact atI_nat hy, hq, h⟩
      obtain ⟨y1, q, u, hy1, ⟨a1, b1, z1, rfl, ha1, hb1, hu1⟩, hat⟩ := pick nu
      refine ⟨_, rfl, _, rfl, _, rfl, D, _, rfl, .inl (SqL.of hD7), _, _, rfl, rfl, lpos, D, us, _, _, rfl, rfl, SqL.of hD7, hy1, a1, _, rfl, SqT.of ha1, rfl, _, _, rfl, _, _, rfl, rfl, ?_⟩
      obtain ⟨y2, q2, u2, hy2, ⟨a2, b2, z2, rfl, ha2, hb2, hu2⟩, hat2⟩ := pick (nu / 64)
      have hb1' : H7 b1 = some (.tup (q.map V.int)) := hb1
      have hu1' : TrIs H7 u z1 := hu1
      have hu2' : TrIs H7 u2 z2 := hu2
      have d1 := atT_deep hat
      have e1 := atT_size hat
      have d2 := atT_deep hat2
      have e2 := atT_size hat2
      refine ⟨_, rfl, _, rfl, _, _, rfl, rfl, ⟨by decide, by decide⟩, _, rfl, D, _, rfl, .inl (SqL.of hD7), _, _, rfl, rfl, lpos, D, us, _, _, rfl, rfl, SqL.of hD7, hy2, a2, _, 1, _, rfl, rfl, SqT.of ha2, rfl, _, rfl, (by show 0 ≤ sizeLine; decide), fun e8 he8 => ⟨(by show 3 ≤ sizeLine; decide), fun p8 hp8 => ⟨(by show 2 ≤ sizeLine; decide), fun l8 hl8 => ?_⟩⟩⟩
      have t1 := same_new he8 (.tup [])
      have t2 := same_new hp8 (.tup [.str "leaf", .int nu, .ref e8])
      have t3 := same_new hl8 (.lst [z2, .ref p8])
      have s8 := t1.trans (t2.trans t3)
      have hle : TrIs (upd (upd (upd H7 e8 (.tup [])) p8 (.tup [.str "leaf", .int nu, .ref e8])) l8 (.lst [z2, .ref p8])) (.node "leaf" nu []) (.ref p8) := TrIs.cl (t3 _ _ upd_same) (t3 _ _ (t2 _ _ upd_same)) .nil
      have hl8' := upd_same (H := upd (upd H7 e8 (.tup [])) p8 (.tup [.str "leaf", .int nu, .ref e8])) (a := l8) (o := .lst [z2, .ref p8])
      generalize upd (upd (upd H7 e8 (.tup [])) p8 (.tup [.str "leaf", .int nu, .ref e8])) l8 (.lst [z2, .ref p8]) = H8 at s8 hle hl8' ⊢
      obtain ⟨x, bt, hx, hbt, zb, db⟩ : ∃ (x : V) (bt : Tr), atI [z2, V.ref p8] ((0 + (i : Int)) % 2) = some x ∧ TrIs H8 bt x ∧ size bt ≤ 60 ∧ deep bt ≤ 40 := by
        have g0 := Int.emod_nonneg (0 + (i : Int)) (show (2 : Int) ≠ 0 by decide)
        have g1 := Int.emod_lt_of_pos (0 + (i : Int)) (show (0 : Int) < 2 by decide)
        have : (0 + (i : Int)) % 2 = 0 ∨ (0 + (i : Int)) % 2 = 1 := by omega
        rcases this with e | e <;> rw [e]
        · exact ⟨z2, u2, rfl, TrIs.same (sameT s8) u2 hu2', by omega, by omega⟩
        · exact ⟨_, _, rfl, hle, by rw [size, sizes]; decide, by rw [deep, deeps]; decide⟩
      refine ⟨_, rfl, _, _, rfl, rfl, (by show (0 : Int) < 2; decide), l8, _, _, x, rfl, rfl, SqL.of hl8', hx, ?_⟩
      have hv8 := TrIs.same (sameT s8) t hv7
      have hb8 := s8 _ _ hb1'
      refine ⟨_, rfl, _, rfl, _, rfl, _, _, rfl, rfl, ⟨by decide, by decide⟩, t, u, v, q, b1, _, rfl, hv8, hb8, hat, by omega, hz, fun r br H9 s9 hbr hatr lr => ?_⟩
      have hv9 := TrIs.same (sameT s9) t hv8
      have hx9 := TrIs.same (sameT s9) bt hbt
      refine ⟨_, rfl, _, rfl, _, rfl, _, rfl, _, _, rfl, rfl, (by show (0 : Int) < 2; decide), rfl, t, bt, v, x, r, br, _, rfl, hv9, hx9, hbr, hatr, lr, hz, fun H10 s10 => ⟨_, rfl, iteF ?_⟩⟩
      refine ⟨_, rfl, _, rfl, _, rfl, _, rfl, _, _, rfl, rfl, t, bt, v, x, r, br, _, rfl, TrIs.same (sameT s10) t hv9, TrIs.same (sameT s10) bt hx9, s10 _ _ hbr, hatr, lr, hz, fun H11 s11 => ⟨_, rfl, iteF ?_⟩⟩
      have s811 := s9.trans (s10.trans s11)
      have hv11 := TrIs.same (sameT s811) t hv8
      have hb11 := s811 _ _ hb8
      have hx11 := TrIs.same (sameT s811) bt hbt
      have hz11 := TrIs.same (sameT (s8.trans s811)) u hu1'
      refine ⟨_, rfl, _, rfl, t, v, q, b1, rfl, hv11, hb11, fun u' y hu' hy => ?_, fun hn => by rw [hat] at hn; cases hn⟩
      rw [hat] at hu'
      cases hu'
      refine ⟨_, rfl, _, _, rfl, (al_tr u hy hz11 (by omega)).mono (by omega), fun H12 s12 => ⟨_, rfl, iteF ?_⟩⟩
      have hv12 := TrIs.same (sameT s12) t hv11
      have hx12 := TrIs.same (sameT s12) bt hx11
      obtain ⟨rr, hrr⟩ := putT_some (b := bt) hat
      refine ⟨_, rfl, _, rfl, _, rfl, _, rfl, _, rfl, _, rfl, t, bt, v, x, q, b1, rfl, hv12, hx12, s12 _ _ hb11, by omega, by omega, fun r2 y2 H13 hr2 s13 hy2' => ?_, fun hn => by rw [hrr] at hn; cases hn⟩
      refine ⟨t, bt, r2, v, x, y2, q, b1, rfl, TrIs.same (sameT s13) t hv12, TrIs.same (sameT s13) bt hx12, hy2', (s12.trans s13) _ _ hb11, hr2, hz, by omega, zb, db, fun H14 s14 => ⟨_, rfl, iteF ?_⟩⟩
      exact ⟨⟨_, _, _, _, _, _, rfl⟩, s7.trans (s8.trans (s811.trans (s12.trans (s13.trans s14))))⟩
    · rintro σ H7 ⟨⟨x6, x7, x8, x9, x10, x11, rfl⟩, s7⟩
      exact ⟨_, rfl, _, rfl, t, v, D2, ds, rfl, TrIs.same (sameT s7) t hv4, by omega, hz, s7 _ _ hD4, hds.imp fun _ _ => PthIs.same (sameT s7), fun H8 s8 => k H8⟩
end
end K21
set_option Elab.async false
set_option linter.all false
set_option maxRecDepth 100000
namespace K21
open PySem L2

end K21
open PySem PySem.W PyProof.Rows
set_option maxRecDepth 100000 in
set_option maxHeartbeats 0 in
theorem PySem.Challenge.cw_leafsay_k21_paths_and_branches_holds : PySem.Challenge.rw_leafsay_k21_paths_and_branches.Holds := by
  w_on; o_law; k_head; (case hw => w_witness2)
  k_fill
  refine L2.walk_ofK (l := PySem.Challenge.rw_leafsay_k21_paths_and_branches) (n := 63) (k := 120) (x := "_law_script") (CX := L2.CX0) (sp := K21.spLaw) rfl (by decide) rfl ⟨rfl, by decide, by decide, rfl⟩ (fun w h Y => PySem.W.kIn_of Y) ?F (fun K H a ns hl _ hS => ⟨a, ns, rfl, hS, hl, fun _ => rfl⟩) (fun _ _ _ _ z => z)
  case F =>
    intro w mg fa h KX G hmg
    have T : ∃ T : K21.Adr, K21.Tx (L2.KOf KX) mg T := by
      dsimp only [L2.KOf]
      refine' K21.tx_mk KX G ?m_LeafError ?m_NoText ?m_TooGreat ?m_NoName ?m_NoRule ?m_NoKind ?m_NoTree ?m_NoPlace ?m_NoGiven ?m_NoWalk ?m_Ring ?a0 ?l0 ?c0 ?k0 ?a1 ?l1 ?c1 ?k1 ?a2 ?l2 ?c2 ?k2 ?a3 ?l3 ?c3 ?k3 ?a4 ?l4 ?c4 ?k4 ?a5 ?l5 ?c5 ?k5 ?a6 ?l6 ?c6 ?k6 ?a7 ?l7 ?c7 ?k7 ?a8 ?l8 ?c8 ?k8 ?a9 ?l9 ?c9 ?k9 ?a10 ?l10 ?c10 ?k10 ?a11 ?l11 ?c11 ?k11 ?a12 ?l12 ?c12 ?k12 ?z_ValueError ?z_bool ?z_enumerate ?z_int ?z_isinstance ?z_len ?z_list ?z_range ?z_reversed ?z_str ?z_tuple ?z_zip ?e_LeafError ?e_NoPlace ?xga_NoPlace ?xgt_NoPlace ?xca_NoPlace ?xsp_NoPlace ?xtk_NoPlace ?xmo_NoPlace ?xmb_NoPlace ?u_NoPlace_LeafError ?i_NoPlace_0 ?i_NoPlace_1 ?i_NoPlace_2
      (case m_LeafError => k_is)
      (case m_NoText => k_is)
      (case m_TooGreat => k_is)
      (case m_NoName => k_is)
      (case m_NoRule => k_is)
      (case m_NoKind => k_is)
      (case m_NoTree => k_is)
      (case m_NoPlace => k_is)
      (case m_NoGiven => k_is)
      (case m_NoWalk => k_is)
      (case m_Ring => k_is)
      (case a0 => k_is)
      (case l0 => k_is)
      (case c0 => k_is)
      (case k0 => k_is)
      (case a1 => k_is)
      (case l1 => k_is)
      (case c1 => k_is)
      (case k1 => k_is)
      (case a2 => k_is)
      (case l2 => k_is)
      (case c2 => k_is)
      (case k2 => k_is)
      (case a3 => k_is)
      (case l3 => k_is)
      (case c3 => k_is)
      (case k3 => k_is)
      (case a4 => k_is)
      (case l4 => k_is)
      (case c4 => k_is)
      (case k4 => k_is)
      (case a5 => k_is)
      (case l5 => k_is)
      (case c5 => k_is)
      (case k5 => k_is)
      (case a6 => k_is)
      (case l6 => k_is)
      (case c6 => k_is)
      (case k6 => k_is)
      (case a7 => k_is)
      (case l7 => k_is)
      (case c7 => k_is)
      (case k7 => k_is)
      (case a8 => k_is)
      (case l8 => k_is)
      (case c8 => k_is)
      (case k8 => k_is)
      (case a9 => k_is)
      (case l9 => k_is)
      (case c9 => k_is)
      (case k9 => k_is)
      (case a10 => k_is)
      (case l10 => k_is)
      (case c10 => k_is)
      (case k10 => k_is)
      (case a11 => k_is)
      (case l11 => k_is)
      (case c11 => k_is)
      (case k11 => k_is)
      (case a12 => k_is)
      (case l12 => k_is)
      (case c12 => k_is)
      (case k12 => k_is)
      (case z_ValueError => k_is)
      (case z_bool => k_is)
      (case z_enumerate => k_is)
      (case z_int => k_is)
      (case z_isinstance => k_is)
      (case z_len => k_is)
      (case z_list => k_is)
      (case z_range => k_is)
      (case z_reversed => k_is)
      (case z_str => k_is)
      (case z_tuple => k_is)
      (case z_zip => k_is)
      (case e_LeafError => k_exc)
      (case e_NoPlace => k_exc)
      (case xga_NoPlace => k_is)
      (case xgt_NoPlace => k_is)
      (case xca_NoPlace => k_is)
      (case xsp_NoPlace => k_is)
      (case xtk_NoPlace => k_is)
      (case xmo_NoPlace => k_is)
      (case xmb_NoPlace => k_is)
      (case u_NoPlace_LeafError => k_is)
      (case i_NoPlace_0 => kit_is)
      (case i_NoPlace_1 => kit_is)
      (case i_NoPlace_2 => kit_is)
    obtain ⟨T, TX⟩ := T
    have e0 := hmg.symm.trans TX.m_law
    cases e0
    obtain ⟨oc, od, kV, doc, pm, an, cdv, ct, osl, efd, _, _⟩ := TX.F_law.ex
    refine ⟨T.d_law, fun s u => ?_, fun base _ _ => K21.ok_law TX⟩
    rw [efd]
    exact .of_eq rfl
